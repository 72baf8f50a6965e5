import PyProof.Rows.All
import Kp169Spec
import PyProof.StationsW
import PyProof.PassesOwn
import PyProof.ExcInit
import PyProof.ExcClass2
import PyProof.InstStoreFacts
import PyProof.ExcBaseAll.Exception
import Wide.All
import OpenK.AllK
import Wide.FinOn
import PyProof.EqAt
import PyProof.EqKinds
import PyProof.TupleCall
import KE.BitLaws
import PyProof.ExcAttrAll.Exception
import PyProof.RulesAs
import KE.KNest
import KE.KMinKey
import KE.KLam
import PyProof.ZipIter
import PyProof.Draws
import PyProof.StrWalks
import PyProof.AttrMissHeap
import KE.KItemsList
import PyProof.Rows.StrStrike
import PyProof.ToksMono
import PySem.Challenge.RW_sheetunits_s01_un_read
import KE.OsGo
import PyKp169
import Open.SpecLaws
set_option linter.all false
set_option maxRecDepth 100000
set_option Elab.async false
open Array renaming getElem?_eq_some_iff->qf5,length_toList->qgf,getElem?_toList->qh3,toList_append->qif
open Bool renaming and_eq_true->qev,false_ne_true->qex,false_eq_true->qe0,eq_false_iff->qfd,eq_iff_iff->qfy,not_eq_true'->qin,and_true->qis,or_false->qit,not_true->qjm,false_or->qjn
open Int renaming toNat->qhx,fdiv->qh1,fmod_nonneg_of_pos->qi1,fmod->qjt,mul_neg->qju
open List renaming length_map->qec,length_append->qee,getElem?_eq_some_iff->qef,length_cons->qeg,getElem?_map->qeh,map_append->qej,replicate->qem,all_eq_true->qeo,mem_append->qeq,mem_cons->qer,size_toArray->qet,zipWith->qeu,mem_singleton->qew,mem_of_mem_drop->qey,mem_map->qe1,length_take->qe2,getElem?_eq_getElem->qe3,take_of_length_le->qe5,mem_of_getElem?->qe7,length_nil->qe8,mem_cons_of_mem->qfa,drop_eq_getElem_cons->qfb,append_assoc->qfc,append_nil->qfe,map_cons->qfh,mem_append_right->qfi,getD_eq_getElem?_getD->qfj,range->qfk,length_drop->qfl,takeWhile_cons->qfm,take_succ->qfn,nil_append->qfp,mem_append_left->qft,find?_cons->qfu,contains_cons->qfv,mem_cons_self->qfw,getElem?_eq_none->qfx,cons_append->qfz,take_length->qf0,zipWith_cons_cons->qf1,map_congr_left->qf2,all_append->qf3,foldl_cons->qf7,take_append_drop->qf8,eq_of_mem_replicate->qf9,mem_filter->qgb,mem_of_mem_take->qgc,not_mem_nil->qgd,getElem?_append_right->qge,replicate_succ->qgg,mem_of_find?_eq_some->qgh,drop_length->qgl,getD->qgm,mem_range->qgo,drop_of_length_le->qgr,lookup_cons->qgs,mem_or_eq_of_mem_set->qgw,drop_zero->qgx,mem_iff_getElem->qgy,nodup_cons->qgz,getElem?_replicate->qg0,all_cons->qg1,any_cons->qg2,length->qg4,zip->qg8,foldl_append->qg9,flatten_cons->qhb,forIn_nil->qhf,getElem?_zip_eq_some->qhg,drop_drop->qhh,getElem_mem->qhi,idxOf?_cons->qhk,dropWhile_cons->qhl,filterMap_cons->qhm,lookup->qho,map_nil->qhq,zip_cons_cons->qhr,map_drop->qhs,findIdx?_eq_some_iff_getElem->qht,mem_filterMap->qhu,forIn_cons->qhv,range_succ->qhw,getElem?_set_self->qhy,length_replicate->qh2,map_map->qh7,range_eq_range'->qh9,getElem?_set_ne->qia,sum_cons->qib,map_take->qic,of_mem_zip->qid,all_map->qih,filter_append->qii,nodup_nil->qij,getElem?_append_left->qil,nodup_append->qim,length_range->qir,take_append->qiv,range'_succ->qiw,getElem_inj->qix,drop_eq_nil_of_le->qi0,range_succ_eq_map->qi3,zipWith_nil_left->qi5,getElem?_zipWith->qi6,length_set->qi7,length_singleton->qi8,length_filter_le->qjc,take_zero->qjd,getD_cons_succ->qje,range'->qjf,filter_eq_self->qjg,length_zipWith->qjh,drop_succ_cons->qji,toList_toArray->qjk,all_nil->qjp
open Nat renaming le_refl->qek,lt_of_lt_of_le->qep,ne_of_lt->qe9,le_trans->qfq,zero_le->qf4,lt_irrefl->qgi,le_add_right->qgk,ne_of_gt->qgp,le_of_eq->qg5,min_eq_left->qg7,add_le_add_right->qhd,min_eq_right->qhj,le_of_succ_le->qhz,lt_succ_of_lt->qh0,lt_succ_self->qiz,add_comm->qjb,lt_or_ge->qjo,le_of_lt->qjq,lt_trans->qjr,add_zero->qjs,le_succ->qjv
open Option renaming map_eq_some_iff->qei,bind_eq_some_iff->qel,some->qen,map_some->qez,bind_some->qe4,toList_some->qf6,isSome_iff_exists->qiq
open PySem.F renaming plainAttrs_list->qe6,slot_list_append->qff,type_list_append->qfg,slot_zip_getattribute->qg3,excBase_Exception->qhe,slot_dict_get->qh4,slot_list_pop->qh5,type_list_pop->qh6,args_dict_get_3->qiu,entry_dict_get->qi4
open PySem.W renaming Frag->qed,findIn->qes,mg_none_of->qfo,fnOf->qfr,keepIn->qfs,emptyDict->qga,codeIn->qgj,mg_of->qgn,instObj->qgq,clsIn->qgt,callWith_K->qgu,nsIn->qgv,methodCall_KW->qg6,hasDictIn->qha,looks_findIn->qhc,looks_clsIn->qhn,isFn->qhp,plainGet->qh8,plainGet_of->qie,callWith_K0->qig,lookIn->qik,methodObj->qio,set_plain->qip,handedIn->qiy,cellsFrom_some->qi2,takerIn->qi9,makesIn->qja,findObj_own->qjj,looks_mroIn->qjl
namespace Mir
open Kp168 (Row nought ofPlace ofMark mul pow Filling itself filled nearest instead only MOST IN STEPS)
noncomputable def za6(r:Row):List Int:=r.mark++r.place
structure WF(r:Row):Prop where
 m:r.mark.length=8
 p:r.place.length=24
theorem zbf{r:Row}(h:WF r):(za6 r).length=32:=by simp[za6,h.m,h.p]
theorem zdq{r:Row}(h:WF r):(za6 r).take 8=r.mark:=by simp[za6,<-h.m]
theorem zcp{r:Row}(h:WF r):(za6 r).drop 8=r.place:=by simp[za6,<-h.m]
theorem zb5:WF nought:=⟨rfl,rfl⟩
theorem zat(p:Nat):WF (ofPlace p):=⟨rfl,by simp[ofPlace,nought,Kp168.PLACES]⟩
theorem zvo(p:Nat):WF (ofMark p):=⟨by simp[ofMark,nought,Kp168.MARKS],rfl⟩
theorem zes{a b:Row}(ha:WF a)(hb:WF b):WF (mul a b):=⟨by simp[mul,ha.m,hb.m],by simp[mul,ha.p,hb.p]⟩
theorem zbv{a:Row}(k:Int)(ha:WF a):WF (pow k a):=⟨by simp[pow,ha.m],by simp[pow,ha.p]⟩
theorem zrk{i:Nat}(h:i<8):(qem 32 (0:Int)).set i 1=za6 (ofMark i):=by
 have:∀i:_root_.Fin 8,(qem 32 (0:Int)).set i.1 1=za6 (ofMark i.1):=by decide
 exact this ⟨i,h⟩
theorem zi2{p:Nat}(h:p<24):(qem 32 (0:Int)).set (8+p) 1=za6 (ofPlace p):=by
 have:∀i:_root_.Fin 24,(qem 32 (0:Int)).set (8+i.1) 1=za6 (ofPlace i.1):=by decide
 exact this ⟨p,h⟩
theorem zcs{α β γ:Type}(f:α->β->γ):∀(a b:List α)(c d:List β),a.length=c.length->qeu f (a++b) (c++d)=qeu f a c++qeu f b d
 |[],_,[],_,_=>rfl
 |[],_,_::_,_,h=>by simp at h
 |_::_,_,[],_,h=>by simp at h
 |x::a,b,y::c,d,h=>by
  have h':a.length=c.length:=by simpa using h
  simp[zcs f a b c d h']
theorem znx{a b:Row}(ha:WF a)(hb:WF b):qeu (λx y=>x+y) (za6 a) (za6 b)=za6 (mul a b):=by
 unfold za6;rw[zcs _ _ _ _ _ (by rw[ha.m,hb.m])];rfl
theorem zqh(a b:List Int):qeu (λx y=>x - y) a b=qeu (λx y=>x+y) a (b.map ((-1)*·)):=by
 rw[List.zipWith_map_right];congr 1;funext x y;lia
theorem zny{a b:Row}(ha:WF a)(hb:WF b):qeu (λx y=>x - y) (za6 a) (za6 b)=za6 (mul a (pow (-1) b)):=by
 have e:(za6 b).map ((-1)*·)=za6 (pow (-1) b):=by simp[za6,pow]
 rw[zqh,e,znx ha (zbv _ hb)]
theorem znw{a:Row}(k:Int):(za6 a).map (λx=>x*k)=za6 (pow k a):=by
 unfold za6 pow;rw[qej];simp[Int.mul_comm]
theorem zig{r:Row}{k:Nat}(h:WF r)(hk:k<=24):r.mark++qem k 0++r.place.take (24 - k)=za6 (Kp169.shift k r):=by
 unfold za6 Kp169.shift
 simp only[Kp168.PLACES,qfc]
 rw[qiv]
 simp[hk,qe5]
theorem zfv{r:Row}(k:Nat)(h:WF r):WF (Kp169.shift k r):=⟨h.m,by unfold Kp169.shift;simp[Kp168.PLACES,h.p]⟩
theorem zc4:∀(a b:List Int),(∀x∈b,x=0)->a.length<=b.length->qeu (λx y=>x+y) a b=a
 |[],_,_,_=>by simp
 |x::a,[],_,h=>by simp at h
 |x::a,y::b,h,hl=>by
  have hy:y=0:=h y (by simp)
  have:=zc4 a b (λz hz=>h z (by simp[hz])) (by simpa using hl)
  simp[hy,this]
theorem zs6{a x:Row}(ha:WF a)(hx:WF x):mul a (pow 0 x)=a:=by
 unfold mul pow
 have e1:qeu (λx y:Int=>x+y) a.mark (x.mark.map (0*·))=a.mark:=zc4 _ _ (by simp) (by simp[ha.m,hx.m])
 have e2:qeu (λx y:Int=>x+y) a.place (x.place.map (0*·))=a.place:=zc4 _ _ (by simp) (by simp[ha.p,hx.p])
 cases a;simp only[e1,e2]
noncomputable def zcy(acc:Row)(q:Row×Int):Row:=if q.2=0 then acc else mul acc (pow q.2 q.1)
theorem zjr{acc:Row}{q:Row×Int}(h:WF acc)(hq:WF q.1):WF (zcy acc q):=by
 unfold zcy;split
 ·exact h
 ·exact zes h (zbv _ hq)
noncomputable def zyd(s:List Row)(r:Row):Row:=(qg8 s r.place).foldl zcy { nought with mark:=r.mark }
theorem zfu{r:Row}(h:WF r):WF { nought with mark:=r.mark }:=⟨h.m,rfl⟩
theorem zvp:∀(l:List (Row×Int))(acc:Row),WF acc->(∀q∈l,WF q.1)->WF (l.foldl zcy acc)
 |[],_,h,_=>h
 |q::l,acc,h,hq=>zvp l _ (zjr h (hq q (by simp))) λp hp=>hq p (by simp[hp])
theorem zvq{s:List Row}{r:Row}(hr:WF r)(hs:∀x∈s,WF x):WF (zyd s r):=
 zvp _ _ (zfu hr) λq hq=>hs q.1 (qid hq).1
theorem zm5:∀(s:List Row)(l:List Int)(acc:Row),WF acc->(∀x∈s,WF x)->(qg8 s l).foldl zcy acc=(qeu pow l s).foldl mul acc
 |[],_,_,_,_=>by simp
 |x::s,[],_,_,_=>by simp
 |x::s,k::l,acc,ha,hs=>by
  have hx:=hs x (by simp)
  have e:zcy acc (x,k)=mul acc (pow k x):=by
   unfold zcy
   split
   ·next h=>simp only at h;subst h;rw[zs6 ha hx]
   ·rfl
  simp only[qhr,qf7,qf1,e]
  exact zm5 s l _ (zes ha (zbv _ hx)) λy hy=>hs y (by simp[hy])
theorem zpr{s:List Row}{r:Row}(hr:WF r)(hs:∀x∈s,WF x):zyd s r=filled s r:=zm5 s r.place _ (zfu hr) hs
theorem zm4:∀(s:List Row)(l:List Int)(acc:Row),WF acc->(∀x∈s,WF x)->(∀k∈l,k=0)->(qeu pow l s).foldl mul acc=acc
 |[],l,_,_,_,_=>by cases l <;> simp
 |_::_,[],_,_,_,_=>by simp
 |x::s,k::l,acc,ha,hs,hk=>by
  have hk0:k=0:=hk k (by simp)
  subst hk0
  simp only[qf1,qf7]
  rw[zs6 ha (hs x (by simp))]
  exact zm4 s l acc ha (λy hy=>hs y (by simp[hy])) λy hy=>hk y (by simp[hy])
theorem zbs{s:List Row}{r:Row}(hr:WF r)(hs:∀x∈s,WF x):WF (filled s r):=by rw[<-zpr hr hs];exact zvq hr hs
theorem zu0{s t:List Row}{r:Row}(hr:WF r)(hs:∀x∈s,WF x)(ht:∀x∈t,WF x)(h0:∀k∈r.place.drop s.length,k=0):filled (s++t) r=filled s r:=by
 unfold filled
 have e:qeu pow r.place (s++t)=qeu pow (r.place.take s.length) s++qeu pow (r.place.drop s.length) t:=by
  by_cases hl:s.length<=r.place.length
  ·conv=>lhs;rw[<-qf8 s.length r.place]
   rw[zcs]
   simp[hl]
  ·have h1:r.place.length<=s.length:=by lia
   rw[qe5 h1,qi0 h1]
   simp only[qi5,qfe]
   have:qeu pow r.place (s++t)=qeu pow (r.place++[]) (s.take r.place.length++(s.drop r.place.length++t)):=by
    rw[qfe,<-qfc,qf8]
   rw[this,zcs _ _ _ _ _ (by simp[h1])]
   simp only[qi5,qfe]
   conv=>rhs;rw[<-qf8 r.place.length s,<-qfe r.place]
   rw[zcs _ _ _ _ _ (by simp[h1])]
   simp
 have e2:qeu pow r.place s=qeu pow (r.place.take s.length) s:=by
  by_cases hl:s.length<=r.place.length
  ·conv=>lhs;rw[<-qf8 s.length r.place,<-qfe s]
   rw[zcs _ _ _ _ _ (by simp[hl])]
   simp
  ·rw[qe5 (by lia)]
 rw[e,qg9,zm4 t _ _ _ ht h0,<-e2]
 have:WF ((qeu pow r.place s).foldl mul { nought with mark:=r.mark }):=zbs hr hs
 rw[<-e2];exact this
noncomputable def mk(r:Row)(i:Nat):Int:=r.mark.getD i 0
noncomputable def pl(r:Row)(j:Nat):Int:=r.place.getD j 0
theorem ztj{a b:List Int}(hl:a.length=b.length)(h:∀i,i<a.length->a.getD i 0=b.getD i 0):a=b:=by
 apply List.ext_getElem hl
 intro i h1 h2
 have:=h i h1
 simpa [qgm,h1,h2] using this
theorem zqr{a b:Row}(ha:WF a)(hb:WF b)(h1:∀i,i<8->mk a i=mk b i)(h2:∀j,j<24->pl a j=pl b j):a=b:=by
 have e1:a.mark=b.mark:=ztj (by rw[ha.m,hb.m]) λi hi=>h1 i (by rw[ha.m]at hi;exact hi)
 have e2:a.place=b.place:=ztj (by rw[ha.p,hb.p]) λi hi=>h2 i (by rw[ha.p]at hi;exact hi)
 cases a;cases b;simp_all
theorem zte(a b:List Int)(i:Nat)(h:a.length=b.length):(qeu (λx y=>x+y) a b).getD i 0=a.getD i 0+b.getD i 0:=by
 by_cases hi:i<a.length
 ·have hi':i<b.length:=by lia
  simp[qgm,qi6,hi,hi']
 ·have hi':¬i<b.length:=by lia
  simp[qgm,qi6,qfx (by lia:a.length<=i),qfx (by lia:b.length<=i)]
theorem zeg(a:List Int)(f:Int->Int)(h0:f 0=0)(i:Nat):(a.map f).getD i 0=f (a.getD i 0):=by
 by_cases hi:i<a.length
 ·simp[qgm,hi]
 ·simp[qgm,qfx (by lia:a.length<=i),h0]
theorem qbq{a b:Row}(ha:WF a)(hb:WF b)(i:Nat):mk (mul a b) i=mk a i+mk b i:=zte _ _ _ (by rw[ha.m,hb.m])
theorem zwn{a b:Row}(ha:WF a)(hb:WF b)(i:Nat):pl (mul a b) i=pl a i+pl b i:=zte _ _ _ (by rw[ha.p,hb.p])
theorem zxm(k:Int)(a:Row)(i:Nat):mk (pow k a) i=k*mk a i:=zeg _ _ (by simp) _
theorem zsq(k:Int)(a:Row)(i:Nat):pl (pow k a) i=k*pl a i:=zeg _ _ (by simp) _
theorem zjj(n i:Nat):(qem n (0:Int)).getD i 0=0:=by
 simp only[qgm,qg0];split <;> rfl
theorem zhr(l:List Int)(i j:Nat)(x:Int):(l.set i x).getD j 0=if i=j/\i<l.length then x else l.getD j 0:=by
 simp only[qgm,List.getElem?_set]
 by_cases h:i=j
 ·subst h
  by_cases hi:i<l.length
  ·simp[hi]
  ·simp[hi,qfx (by lia:l.length<=i)]
 ·simp[h]
theorem zfx(p j:Nat):pl (ofPlace p) j=if p=j/\p<24 then 1 else 0:=by
 show ((qem 24 (0:Int)).set p 1).getD j 0=_
 rw[zhr,zjj];simp
theorem zmx(p i:Nat):mk (ofPlace p) i=0:=zjj 8 i
theorem zxn(i:Nat):mk nought i=0:=zjj 8 i
theorem zdj(i:Nat):pl nought i=0:=zjj 24 i
theorem zxo(i:Nat):∀(l:List Int)(t:List Row)(acc:Row),WF acc->(∀x∈t,WF x) ->
  mk ((qeu pow l t).foldl mul acc) i=mk acc i+(qeu (λk x=>k*mk x i) l t).sum
 |[],_,_,_,_=>by simp
 |_::_,[],_,_,_=>by simp
 |k::l,x::t,acc,ha,ht=>by
  have hx:=ht x (by simp)
  simp only[qf1,qf7,qib]
  rw[zxo i l t _ (zes ha (zbv k hx)) λy hy=>ht y (by simp[hy]),qbq ha (zbv k hx),zxm]
  lia
theorem zwo(i:Nat):∀(l:List Int)(t:List Row)(acc:Row),WF acc->(∀x∈t,WF x) ->
  pl ((qeu pow l t).foldl mul acc) i=pl acc i+(qeu (λk x=>k*pl x i) l t).sum
 |[],_,_,_,_=>by simp
 |_::_,[],_,_,_=>by simp
 |k::l,x::t,acc,ha,ht=>by
  have hx:=ht x (by simp)
  simp only[qf1,qf7,qib]
  rw[zwo i l t _ (zes ha (zbv k hx)) λy hy=>ht y (by simp[hy]),zwn ha (zbv k hx),zsq]
  lia
theorem zqn(f:Int->Row->Int):∀(l:List Int)(t:List Row)(p:Nat)(x:Row),p<l.length->p<t.length ->
  (qeu f l (t.set p x)).sum=(qeu f l t).sum+(f (l.getD p 0) x - f (l.getD p 0) (t.getD p default))
 |[],_,_,_,h,_=>by simp at h
 |_,[],_,_,_,h=>by simp at h
 |k::l,y::t,0,x,_,_=>by simp;lia
 |k::l,y::t,p+1,x,h1,h2=>by
  have:=zqn f l t p x (by simpa using h1) (by simpa using h2)
  simp only[List.set_cons_succ,qf1,qib,qje]
  rw[this];lia
theorem zob:∀x∈itself,WF x:=by
 intro x hx
 obtain⟨p,_,rfl⟩:=qe1.mp hx
 exact zat p
theorem zoj(j:Nat):∀(l:List Int)(a:Nat),a+l.length<=24 ->
  (qeu (λk x=>k*pl x j) l ((qjf a l.length).map ofPlace)).sum=if a<=j/\j<a+l.length then l.getD (j - a) 0 else 0
 |[],a,_=>by simp
 |k::l,a,h=>by
  simp only[qeg]at h
  simp only[qeg,qiw,qfh,qf1,qib]
  rw[zoj j l (a+1) (by lia),zfx]
  by_cases h1:a=j
  ·subst h1
   rw[if_pos ⟨rfl,by lia⟩,if_neg (by lia),if_pos (by lia)]
   simp
  ·rw[if_neg (by lia)]
   by_cases h2:a+1<=j/\j<a+1+l.length
   ·rw[if_pos h2,if_pos (by lia)]
    have:j - a=(j - (a+1))+1:=by lia
    rw[this,qje];simp
   ·rw[if_neg h2,if_neg (by lia)];simp
theorem zph:itself=(qjf 0 24).map ofPlace:=by
 unfold itself;rw[qh9];rfl
theorem zt4{l:List Int}(hl:l.length=24)(j:Nat)(hj:j<24):(qeu (λk x=>k*pl x j) l itself).sum=l.getD j 0:=by
 have:=zoj j l 0 (by lia)
 rw[hl]at this
 rw[zph,this,if_pos ⟨by lia,by lia⟩];simp
theorem zg9{l:List Int}(i:Nat):∀(t:List Row),(∀x∈t,∃p,x=ofPlace p)->∀l:List Int,(qeu (λk x=>k*mk x i) l t).sum=0
 |[],_,l=>by simp
 |x::t,h,[]=>by simp
 |x::t,h,k::l=>by
  obtain⟨p,rfl⟩:=h x (by simp)
  simp[zmx,zg9 (l:=l) i t (λy hy=>h y (by simp[hy])) l]
theorem zx1:∀x∈itself,∃p,x=ofPlace p:=λx hx=>by
 obtain⟨p,_,rfl⟩:=qe1.mp hx
 exact⟨p,rfl⟩
theorem zie:itself.length=24:=by simp[itself,Kp168.PLACES]
theorem zkz{p:Nat}(h:p<24):itself.getD p default=ofPlace p:=by
 simp[itself,Kp168.PLACES,qgm,h]
theorem zqi{p:Nat}{x:Row}(hx:WF x):∀y∈only p x,WF y:=λy hy=>by
 rcases qgw hy with h|h
 ·exact zob y h
 ·rw[h];exact hx
theorem zrb{s x:Row}{p:Nat}(hs:WF s)(hx:WF x)(hp:p<24)(i:Nat):mk (filled (only p x) s) i=mk s i+pl s p*mk x i:=by
 unfold filled
 rw[zxo i _ _ _ (zfu hs) (zqi hx)]
 unfold only
 rw[zqn _ _ _ _ _ (by rw[hs.p];exact hp) (by rw[zie];exact hp),zg9 (l:=[]) i itself zx1,zkz hp,zmx]
 show mk s i+_=_
 unfold pl
 lia
theorem zgo{s x:Row}{p:Nat}(hs:WF s)(hx:WF x)(hp:p<24)(j:Nat)(hj:j<24):pl (filled (only p x) s) j=(if p=j then 0 else pl s j)+pl s p*pl x j:=by
 unfold filled
 rw[zwo j _ _ _ (zfu hs) (zqi hx)]
 unfold only
 rw[zqn _ _ _ _ _ (by rw[hs.p];exact hp) (by rw[zie];exact hp),zt4 hs.p j hj,zkz hp,zfx]
 have e:pl { nought with mark:=s.mark } j=0:=zdj j
 rw[e]
 show 0+(pl s j+(pl s p*pl x j - pl s p*_))=_
 by_cases h:p=j
 ·subst h
  rw[if_pos ⟨rfl,hp⟩,if_pos rfl];lia
 ·rw[if_neg (by lia),if_neg h];lia
theorem za2{s x:Row}{p:Nat}(hs:WF s)(hx:WF x):WF (filled (only p x) s):=zbs hs (zqi hx)
theorem zbt{r:Row}(p:Nat)(a:Int)(h:WF r):WF (instead r p a):=⟨by simp[instead,h.m],by simp[instead,h.p]⟩
theorem zup(r:Row)(p:Nat)(a:Int)(i:Nat):mk (instead r p a) i=-(qh1 (mk r i) a):=
 zeg _ (λk=>-(qh1 k a)) (by simp) _
theorem zfy{r:Row}{p:Nat}(a:Int)(h:WF r)(hp:p<24)(j:Nat):pl (instead r p a) j=if p=j then 1 else -(qh1 (pl r j) a):=by
 unfold pl instead
 simp only[zhr,qec,h.p,hp,and_true]
 split
 ·rfl
 ·exact zeg _ (λk=>-(qh1 k a)) (by simp) _
noncomputable def ze0(r:Row)(p:Nat)(a:Int):Row:=⟨r.mark.map (λk=>qh1 k a),(r.place.map λk=>qh1 k a).set p 0⟩
theorem zvn{r:Row}(p:Nat)(a:Int)(h:WF r):WF (ze0 r p a):=⟨by simp[ze0,h.m],by simp[ze0,h.p]⟩
theorem zx9{r:Row}{p:Nat}{a:Int}(h:WF r):((za6 r).map λk=>qh1 k a).set (8+p) 0=za6 (ze0 r p a):=by
 unfold za6 ze0
 rw[qej,List.set_append,if_neg (by simp[h.m])]
 simp[h.m]
noncomputable def zbb(s:Row)(p:Nat)(q:Row):Row:=if pl s p=0 then s else mul s (pow (-1) (pow (pl s p) q))
theorem zjq{s q:Row}{p:Nat}(hs:WF s)(hq:WF q):WF (zbb s p q):=by
 unfold zbb;split
 ·exact hs
 ·exact zes hs (zbv _ (zbv _ hq))
theorem zfi{s r:Row}{p:Nat}{a:Int}(hs:WF s)(hr:WF r)(hp:p<24):zbb s p (ze0 r p a)=filled (only p (instead r p a)) s:=by
 have hi:=zbt p a hr
 have hq:=zvn p a hr
 refine zqr (zjq hs hq) (za2 hs hi) (λi hi'=>?_) λj hj=>?_
 ·rw[zrb hs hi hp,zup]
  have e:mk (ze0 r p a) i=qh1 (mk r i) a:=zeg _ (λk=>qh1 k a) (by simp) _
  unfold zbb
  split
  ·next h=>rw[h];simp
  ·rw[qbq hs (zbv _ (zbv _ hq)),zxm,zxm,e,qju];lia
 ·rw[zgo hs hi hp j hj,zfy a hr hp]
  have e:pl (ze0 r p a) j=if p=j then 0 else qh1 (pl r j) a:=by
   unfold pl ze0
   simp only[zhr,qec,hr.p,hp,and_true]
   split
   ·rfl
   ·exact zeg _ (λk=>qh1 k a) (by simp) _
  unfold zbb
  split
  ·next h=>
   rw[h]
   by_cases hpj:p=j
   ·subst hpj;rw[if_pos rfl,h];simp
   ·rw[if_neg hpj];simp
  ·rw[zwn hs (zbv _ (zbv _ hq)),zsq,zsq,e]
   by_cases hpj:p=j
   ·subst hpj;simp
   ·simp only[if_neg hpj,qju];lia
noncomputable def drop1(r:Row)(p:Nat):Row:={ r with place:=r.place.set p 0 }
theorem zjb{r:Row}(p:Nat)(h:WF r):WF (drop1 r p):=⟨h.m,by simp[drop1,h.p]⟩
theorem zuy{r:Row}{p:Nat}(h:WF r)(hp:p<24):(za6 r).take (8+p)++[0]++(za6 r).drop (8+p+1)=za6 (drop1 r p):=by
 have hl:8+p<(za6 r).length:=by rw[zbf h];lia
 have e:(za6 r).set (8+p) 0=za6 (drop1 r p):=by
  unfold za6 drop1
  rw[List.set_append,if_neg (by simp[h.m])]
  simp[h.m]
 rw[<-e,List.set_eq_take_append_cons_drop,if_pos hl]
 simp
theorem ztl{r:Row}{p:Nat}(h:WF r)(hp:p<24):drop1 r p=filled (only p nought) r:=by
 refine zqr (zjb p h) (za2 h zb5) (λi hi=>?_) λj hj=>?_
 ·rw[zrb h zb5 hp,zxn];show mk r i=_;lia
 ·rw[zgo h zb5 hp j hj,zdj]
  show (r.place.set p 0).getD j 0=_
  rw[zhr,h.p]
  by_cases e:p=j
  ·rw[if_pos ⟨e,hp⟩,if_pos e];simp
  ·rw[if_neg (by lia),if_neg e];show pl r j=_;lia
noncomputable def qar(b:Option (Nat×Int))(x:Int×Nat):Option (Nat×Int):=if x.1=0 then b else match b with
 |none=>some (x.2,x.1)
 |some q=>if x.1.natAbs<q.2.natAbs then some (x.2,x.1) else b
theorem zpb(l:List Int):nearest l=(l.zipIdx 0).foldl qar none:=rfl
noncomputable def NOk(l:List Int)(k:Nat):Option (Nat×Int)->Prop
 |none=>∀j,j<k->l.getD j 0=0
 |some (p,a)=>p<k/\l.getD p 0=a/\a≠0/\∀j,j<k->l.getD j 0≠0->a.natAbs<=(l.getD j 0).natAbs/\(j<p->a.natAbs<(l.getD j 0).natAbs)
theorem qas{l:List Int}{k:Nat}{b:Option (Nat×Int)}{x:Int}(h:NOk l k b)(hx:l.getD k 0=x):NOk l (k+1) (qar b (x,k)):=by
 unfold qar
 by_cases h0:x=0
 ·rw[if_pos h0]
  cases b with
  |none=>intro j hj;by_cases e:j=k
         ·subst e;rw[hx,h0]
         ·exact h j (by lia)
  |some q=>
   obtain⟨p,a⟩:=q
   obtain⟨h1,h2,h3,h4⟩:=h
   refine⟨by lia,h2,h3,λj hj hn=>?_⟩
   by_cases e:j=k
   ·subst e;rw[hx,h0]at hn;exact absurd rfl hn
   ·exact h4 j (by lia) hn
 ·rw[if_neg h0]
  cases b with
  |none=>
   refine⟨by lia,hx,h0,λj hj hn=>?_⟩
   by_cases e:j=k
   ·subst e;rw[hx];exact⟨qek _,λz=>by lia⟩
   ·exact absurd (h j (by lia)) hn
  |some q=>
   obtain⟨p,a⟩:=q
   obtain⟨h1,h2,h3,h4⟩:=h
   simp only
   split
   ·next hlt=>
    refine⟨by lia,hx,h0,λj hj hn=>?_⟩
    by_cases e:j=k
    ·subst e;rw[hx];exact⟨qek _,λz=>by lia⟩
    ·have:=(h4 j (by lia) hn).1
     exact⟨by lia,λ_=>by lia⟩
   ·next hlt=>
    refine⟨by lia,h2,h3,λj hj hn=>?_⟩
    by_cases e:j=k
    ·subst e;rw[hx];exact⟨by lia,λz=>by lia⟩
    ·exact h4 j (by lia) hn
theorem zs5(l:List Int):∀(t:List Int)(k:Nat)(b:Option (Nat×Int)),l.drop k=t->NOk l k b->NOk l l.length ((t.zipIdx k).foldl qar b)
 |[],k,b,e,h=>by
  have hk:l.length<=k:=List.drop_eq_nil_iff.mp e
  cases b with
  |none=>exact λj hj=>h j (by lia)
  |some q=>
   obtain⟨p,a⟩:=q
   obtain⟨h1,h2,h3,h4⟩:=h
   refine⟨?_,h2,h3,λj hj hn=>h4 j (by lia) hn⟩
   rcases qjo p l.length with z|z
   ·exact z
   ·rw[qfj,qfx z]at h2
    exact absurd h2.symm h3
 |x::t,k,b,e,h=>by
  have hk:k<l.length:=by
   rcases qjo k l.length with z|z
   ·exact z
   ·rw[qi0 z]at e;cases e
  rw[qfb hk]at e
  injection e with e1 e2
  simp only[List.zipIdx_cons,qf7]
  exact zs5 l t (k+1) _ e2 (qas h (by simp[qgm,hk,e1]))
theorem zib(l:List Int):NOk l l.length (nearest l):=by
 rw[zpb]
 exact zs5 l l 0 none rfl (λj hj=>by lia)
theorem zun{l:List Int}{p p':Nat}{a a':Int}(h:NOk l l.length (some (p,a)))(h':NOk l l.length (some (p',a'))):p=p'/\a=a':=by
 obtain⟨h1,h2,h3,h4⟩:=h
 obtain⟨g1,g2,g3,g4⟩:=h'
 have u:=h4 p' g1 (by rw[g2];exact g3)
 have v:=g4 p h1 (by rw[h2];exact h3)
 rw[g2]at u;rw[h2]at v
 have e:p=p':=by
  rcases Nat.lt_trichotomy p p' with z|z|z
  ·have:=v.2 z;lia
  ·exact z
  ·have:=u.2 z;lia
 subst e
 exact⟨rfl,by rw[<-h2,<-g2]⟩
theorem nearest_none{l:List Int}:nearest l=none↔∀j,j<l.length->l.getD j 0=0:=by
 have h:=zib l
 constructor
 ·intro e;rw[e]at h;exact h
 ·intro z
  cases e:nearest l with
  |none=>rfl
  |some q=>
   obtain⟨p,a⟩:=q
   rw[e]at h
   exact absurd (h.2.1.symm.trans (z p h.1)) h.2.2.1
theorem nearest_some{l:List Int}{p:Nat}{a:Int}:nearest l=some (p,a)↔NOk l l.length (some (p,a)):=by
 constructor
 ·intro e;have h:=zib l;rw[e]at h;exact h
 ·intro z
  cases e:nearest l with
  |none=>exact absurd (z.2.1.symm.trans (nearest_none.mp e p z.1)) z.2.2.1
  |some q=>
   obtain⟨p',a'⟩:=q
   have h:=zib l
   rw[e]at h
   obtain⟨rfl,rfl⟩:=zun h z
   rfl
theorem empty_iff{l:List Int}:Kp168.empty l=true↔∀j,j<l.length->l.getD j 0=0:=by
 unfold Kp168.empty
 rw[qeo]
 constructor
 ·intro h j hj
  have:=h l[j] (qhi hj)
  simpa [qgm,hj] using this
 ·intro h x hx
  obtain⟨j,hj,rfl⟩:=qgy.mp hx
  have:=h j hj
  simpa [qgm,hj] using this
noncomputable def Lo(n:Nat)(r:Row):Prop:=∀j,n<=j->pl r j=0
noncomputable def zgy(n:Nat)(s:List Row):Filling:=s++itself.drop n
structure SOk(n:Nat)(s:List Row):Prop where
 len:s.length=n
 le:n<=24
 wf:∀x∈s,WF x
 lo:∀x∈s,Lo n x
theorem zz1{r:Row}(h:WF r){j:Nat}(hj:24<=j):pl r j=0:=by
 unfold pl;rw[qfj,qfx (by rw[h.p];exact hj)];rfl
theorem zxr(n:Nat):Lo n nought:=λj _=>zdj j
theorem zxs{n:Nat}{a b:Row}(ha:WF a)(hb:WF b)(h1:Lo n a)(h2:Lo n b):Lo n (mul a b):=λj hj=>by rw[zwn ha hb,h1 j hj,h2 j hj];rfl
theorem zxp{n:Nat}{a:Row}(k:Int)(h:Lo n a):Lo n (pow k a):=λj hj=>by rw[zsq,h j hj];simp
theorem zf2{n p:Nat}(h:p<n):Lo n (ofPlace p):=λj hj=>by rw[zfx,if_neg (by lia)]
theorem zxq(n p:Nat):Lo n (ofMark p):=λj _=>zdj j
theorem zre{n m:Nat}{r:Row}(h:Lo n r)(hm:n<=m):Lo m r:=λj hj=>h j (by lia)
theorem znq{n k:Nat}{r:Row}(hr:WF r)(h:Lo n r):Lo (k+n) (Kp169.shift k r):=λj hj=>by
 show ((qem k 0++r.place).take 24).getD j 0=0
 rw[qfj,List.getElem?_take]
 split
 ·rw[qge (by simp;lia)]
  have:=h (j - k) (by lia)
  unfold pl at this
  rw[qfj]at this
  simpa using this
 ·rfl
theorem zxt{n:Nat}:∀(l:List Int)(t:List Row)(acc:Row),WF acc->(∀x∈t,WF x/\Lo n x)->Lo n acc->Lo n ((qeu pow l t).foldl mul acc)
 |[],_,_,_,_,h=>by simpa using h
 |_::_,[],_,_,_,h=>by simpa using h
 |k::l,x::t,acc,ha,ht,h=>by
  have hx:=ht x (by simp)
  simp only[qf1,qf7]
  exact zxt l t _ (zes ha (zbv k hx.1)) (λy hy=>ht y (by simp[hy])) (zxs ha (zbv k hx.1) h (zxp k hx.2))
theorem zpd{n:Nat}{s:List Row}{r:Row}(hr:WF r)(hs:∀x∈s,WF x)(hl:∀x∈s,Lo n x):Lo n (filled s r):=
 zxt _ _ _ (zfu hr) (λx hx=>⟨hs x hx,hl x hx⟩) (λj _=>zdj j)
theorem qb5(n:Nat):∀x∈itself.drop n,WF x:=λx hx=>zob x (qey hx)
theorem zgx{n:Nat}{s:List Row}{r:Row}(h:SOk n s)(hr:WF r)(hl:Lo n r):filled (zgy n s) r=filled s r:=
 zu0 hr h.wf (qb5 n) λk hk=>by
  obtain⟨i,hi,e⟩:=qgy.mp hk
  rw[qfl]at hi
  have:=hl (n+i) (by lia)
  unfold pl at this
  have hn:=h.len
  subst hn
  rw[List.getElem_drop]at e
  rw[<-e]
  simpa [qgm,show s.length+i<r.place.length by lia] using this
theorem zwe(n:Nat):∀x∈itself.drop n,∃q,n<=q/\q<24/\x=ofPlace q:=λx hx=>by
 obtain⟨i,hi,e⟩:=qgy.mp hx
 rw[qfl,zie]at hi
 refine⟨n+i,by lia,by lia,?_⟩
 rw[List.getElem_drop]at e
 rw[<-e]
 simp[itself]
theorem ztf{n p:Nat}{s:List Row}{x:Row}(hx:WF x)(hp:p<n)(hn:n<=24):(zgy n s).map (filled (only p x))=zgy n (s.map (filled (only p x))):=by
 unfold zgy
 rw[qej]
 congr 1
 conv=>rhs;rw[<-List.map_id (itself.drop n)]
 refine qf2 λy hy=>?_
 obtain⟨q,h1,h2,rfl⟩:=zwe n y hy
 show filled (only p x) (ofPlace q)=ofPlace q
 have h0:pl (ofPlace q) p=0:=by rw[zfx,if_neg (by lia)]
 refine zqr (za2 (zat q) hx) (zat q) (λi hi=>?_) λj hj=>?_
 ·rw[zrb (zat q) hx (by lia),h0];simp
 ·rw[zgo (zat q) hx (by lia) j hj,h0]
  by_cases e:p=j
  ·subst e;rw[if_pos rfl,h0];simp
  ·rw[if_neg e];simp
theorem zck(q:Nat):Kp168.small (ofPlace q)=true:=by
 have h:∀k∈(ofPlace q).mark++(ofPlace q).place,k=0\/k=1:=by
  intro k hk
  rcases qeq.mp hk with z|z
  ·exact .inl (qf9 z)
  ·rcases qgw z with y|y
   ·exact .inl (qf9 y)
   ·exact .inr y
 unfold Kp168.small
 rw[qeo]
 intro k hk
 rcases h k hk with rfl|rfl <;> decide
theorem zt7{n:Nat}{s:List Row}:(zgy n s).all Kp168.small=s.all Kp168.small:=by
 unfold zgy
 rw[qf3]
 have:(itself.drop n).all Kp168.small=true:=qeo.mpr λx hx=>by
  obtain⟨q,_,_,rfl⟩:=zwe n x hx
  exact zck q
 rw[this,qis]
theorem zsl{n p:Nat}{s:List Row}{r:Row}{a:Int}(h:SOk n s)(hr:WF r)(hl:Lo n r)(hp:p<n):SOk n (s.map (filled (only p (instead r p a)))) where
 len:=by rw[qec];exact h.len
 le:=h.le
 wf:=λx hx=>by
  obtain⟨y,hy,rfl⟩:=qe1.mp hx
  exact za2 (h.wf y hy) (zbt p a hr)
 lo:=λx hx=>by
  obtain⟨y,hy,rfl⟩:=qe1.mp hx
  intro j hj
  have h24:=h.le
  by_cases hj2:j<24
  ·rw[zgo (h.wf y hy) (zbt p a hr) (by lia) j hj2,if_neg (by lia),h.lo y hy j hj,zfy a hr (by lia),if_neg (by lia),hl j hj];simp
  ·exact zz1 (za2 (h.wf y hy) (zbt p a hr)) (by lia)
theorem zzu{n p:Nat}{s:List Row}(h:SOk n s)(hp:p<n):SOk n (s.map (filled (only p nought))) where
 len:=by rw[qec];exact h.len
 le:=h.le
 wf:=λx hx=>by
  obtain⟨y,hy,rfl⟩:=qe1.mp hx
  exact za2 (h.wf y hy) zb5
 lo:=λx hx=>by
  obtain⟨y,hy,rfl⟩:=qe1.mp hx
  intro j hj
  have h24:=h.le
  by_cases hj2:j<24
  ·rw[zgo (h.wf y hy) zb5 (by lia) j hj2,if_neg (by lia),h.lo y hy j hj,zdj];simp
  ·exact zz1 (za2 (h.wf y hy) zb5) (by lia)
theorem qcx{r:Row}{p:Nat}{a:Int}(hr:WF r)(hp:p<24)(ha:pl r p=a)(j:Nat)(hj:j<24) :
  pl (filled (only p (instead r p a)) r) j=if p=j then a else qjt (pl r j) a:=by
 rw[zgo hr (zbt p a hr) hp j hj,zfy a hr hp,ha]
 by_cases e:p=j
 ·rw[if_pos e,if_pos e,if_pos e];lia
 ·rw[if_neg e,if_neg e,if_neg e,Int.fmod_def]
  rw[qju];lia
theorem zx8{x a:Int}(h:a≠0):(qjt x a).natAbs<a.natAbs:=by
 rcases Int.lt_or_lt_of_ne h with z|z
 ·have e:qjt x a=-(qjt (-x) (-a)):=by rw[Int.neg_fmod_neg];lia
  have h1:=qi1 (-x) (show 0 < -a by lia)
  have h2:=Int.fmod_lt_of_pos (-x) (show 0 < -a by lia)
  lia
 ·have h1:=qi1 x z
  have h2:=Int.fmod_lt_of_pos x z
  lia
theorem znp{r:Row}{p:Nat}{a:Int}(hr:WF r)(hn:nearest r.place=some (p,a))(he:Kp168.empty ((filled (only p (instead r p a)) r).place.set p 0)=false):∃p' a',nearest (filled (only p (instead r p a)) r).place=some (p',a')/\a'.natAbs<a.natAbs:=by
 have hk:=nearest_some.mp hn
 obtain⟨h1,h2,h3,h4⟩:=hk
 rw[hr.p]at h1
 have wf1:WF (filled (only p (instead r p a)) r):=za2 hr (zbt p a hr)
 have hex:∃j,j<24/\j≠p/\pl (filled (only p (instead r p a)) r) j≠0:=by
  refine Classical.byContradiction λhc=>?_
  have:Kp168.empty ((filled (only p (instead r p a)) r).place.set p 0)=true:=empty_iff.mpr λj hj=>by
   rw[qi7,wf1.p]at hj
   rw[zhr]
   split
   ·rfl
   ·next hne=>
    refine Classical.byContradiction λhz=>hc ⟨j,hj,λe=>hne ⟨e.symm,by rw[wf1.p];lia⟩,hz⟩
  rw[this]at he;cases he
 obtain⟨j,hj,hjp,hz⟩:=hex
 cases e:nearest (filled (only p (instead r p a)) r).place with
 |none=>exact absurd (nearest_none.mp e j (by rw[wf1.p];exact hj)) hz
 |some q=>
  obtain⟨p',a'⟩:=q
  refine⟨p',a',rfl,?_⟩
  have g:=(nearest_some.mp e).2.2.2 j (by rw[wf1.p];exact hj) hz
  have v:=qcx hr h1 (show pl r p=a from h2) j hj
  rw[if_neg (Ne.symm hjp)]at v
  have w:(filled (only p (instead r p a)) r).place.getD j 0=qjt (pl r j) a:=v
  rw[w]at g
  have:=zx8 (x:=pl r j) h3
  lia
noncomputable abbrev Res:=Int ⊕ Filling
theorem zsz{f:Nat}{s:Filling}{r:Row}(h:nearest r.place=none):Kp168.one (f+1) s r=if Kp168.empty r.mark then .inr s else .inl (-61):=by
 rw[Kp168.one,h]
theorem zz8{f:Nat}{s:Filling}{r:Row}{p:Nat}{a:Int}(h:nearest r.place=some (p,a)):Kp168.one (f+1) s r =
  (let x:=only p (instead r p a)
   let s1:=s.map (filled x)
   let r1:=filled x r
   if !(s1.all Kp168.small && Kp168.small r1) then .inl (-75)
   else if Kp168.empty (r1.place.set p 0) then (if Kp168.empty r1.mark then .inr (s1.map (filled (only p nought))) else .inl (-61))
   else Kp168.one f s1 r1):=by
 rw[Kp168.one,h]
theorem zic{n:Nat}{r:Row}{p:Nat}{a:Int}(hr:WF r)(hl:Lo n r)(h:nearest r.place=some (p,a)):p<n/\p<24/\pl r p=a/\a≠0:=by
 obtain⟨h1,h2,h3,_⟩:=nearest_some.mp h
 rw[hr.p]at h1
 refine⟨?_,h1,h2,h3⟩
 rcases qjo p n with z|z
 ·exact z
 ·exact absurd ((show pl r p=a from h2).symm.trans (hl p z)) h3
theorem zsy{f n:Nat}{s:List Row}{r:Row}{p:Nat}{a:Int}(h:SOk n s)(hr:WF r)(hl:Lo n r)(hn:nearest r.place=some (p,a)) :
  Kp168.one (f+1) (zgy n s) r =
   if (s.map λy=>zbb y p (ze0 r p a)).all Kp168.small=false then .inl (-75)
   else if Kp168.small (zbb r p (ze0 r p a))=false then .inl (-75)
   else if Kp168.empty (drop1 (zbb r p (ze0 r p a)) p).place then (if Kp168.empty (zbb r p (ze0 r p a)).mark then .inr (zgy n ((s.map λy=>zbb y p (ze0 r p a)).map λy=>drop1 y p)) else .inl (-61))
   else Kp168.one f (zgy n (s.map λy=>zbb y p (ze0 r p a))) (zbb r p (ze0 r p a)):=by
 obtain⟨hp,hp24,_,_⟩:=zic hr hl hn
 rw[zz8 hn]
 have e1:(s.map λy=>zbb y p (ze0 r p a))=s.map (filled (only p (instead r p a))):=qf2 λy hy=>zfi (h.wf y hy) hr hp24
 have e2:zbb r p (ze0 r p a)=filled (only p (instead r p a)) r:=zfi hr hr hp24
 have e3:((s.map (filled (only p (instead r p a)))).map λy=>drop1 y p)=(s.map (filled (only p (instead r p a)))).map (filled (only p nought)):=
  qf2 λy hy=>ztl ((zsl h hr hl hp).wf y hy) hp24
 simp only[e1,e2,e3]
 rw[ztf (zbt p a hr) hp h.le,zt7,ztf zb5 hp h.le]
 show _=_
 have e4:(drop1 (filled (only p (instead r p a)) r) p).place=(filled (only p (instead r p a)) r).place.set p 0:=rfl
 rw[e4]
 cases (s.map (filled (only p (instead r p a)))).all Kp168.small <;> cases Kp168.small (filled (only p (instead r p a)) r) <;> simp
theorem zvt{n:Nat}{s:List Row}{r:Row}{p:Nat}{a:Int}(h:SOk n s)(hr:WF r)(hl:Lo n r)(hn:nearest r.place=some (p,a)) :
  SOk n (s.map λy=>zbb y p (ze0 r p a))/\WF (zbb r p (ze0 r p a))/\Lo n (zbb r p (ze0 r p a)):=by
 obtain⟨hp,hp24,_,_⟩:=zic hr hl hn
 have e1:(s.map λy=>zbb y p (ze0 r p a))=s.map (filled (only p (instead r p a))):=qf2 λy hy=>zfi (h.wf y hy) hr hp24
 have e2:zbb r p (ze0 r p a)=filled (only p (instead r p a)) r:=zfi hr hr hp24
 rw[e1,e2]
 refine⟨zsl h hr hl hp,za2 hr (zbt p a hr),λj hj=>?_⟩
 by_cases hj2:j<24
 ·rw[zgo hr (zbt p a hr) hp24 j hj2,if_neg (by lia),hl j hj,zfy a hr hp24,if_neg (by lia),hl j hj];simp
 ·exact zz1 (za2 hr (zbt p a hr)) (by lia)
theorem zty{n:Nat}{r:Row}{p:Nat}{a:Int}(hr:WF r)(hl:Lo n r)(hn:nearest r.place=some (p,a))(he:Kp168.empty (drop1 (zbb r p (ze0 r p a)) p).place=false) :
  ∃p' a',nearest (zbb r p (ze0 r p a)).place=some (p',a')/\a'.natAbs<a.natAbs:=by
 obtain⟨hp,hp24,_,_⟩:=zic hr hl hn
 have e2:zbb r p (ze0 r p a)=filled (only p (instead r p a)) r:=zfi hr hr hp24
 rw[e2]at he ⊢
 exact znp hr hn he
theorem zox{n p:Nat}{s:List Row}(h:SOk n s)(hp:p<n):SOk n (s.map λy=>drop1 y p):=by
 have e:(s.map λy=>drop1 y p)=s.map (filled (only p nought)):=qf2 λy hy=>ztl (h.wf y hy) (by have:=h.le;lia)
 rw[e];exact zzu h hp
theorem znb{r:Row}(h:Kp168.small r=true)(hr:WF r)(j:Nat):(pl r j).natAbs<=2 ^ 30:=by
 unfold Kp168.small at h
 rw[qeo]at h
 by_cases hj:j<24
 ·have hm:r.place.getD j 0∈r.mark++r.place:=by
   have hj':j<r.place.length:=by rw[hr.p];exact hj
   rw[qfj,qe3 hj']
   exact qfi _ (qhi hj')
  have:=h _ hm
  have hM:MOST=1073741824:=by decide
  simp only[qev,decide_eq_true_eq,hM]at this
  show (r.place.getD j 0).natAbs<=1073741824
  lia
 ·rw[zz1 hr (by lia)];decide
noncomputable def zcl(n:Nat)(s:List Row)(e:Row):Res:=if Kp168.small (filled s e)=false then .inl (-75) else Kp168.one STEPS (zgy n s) (filled s e)
noncomputable def ROk(n:Nat):Res->Prop
 |.inl _=>True
 |.inr t=>∃s,t=zgy n s/\SOk n s
noncomputable def zvb:Filling->List Row->Res
 |s,[]=>.inr s
 |s,e::l=>let r:=filled s e
  if !Kp168.small r then .inl (-75) else match Kp168.one STEPS s r with
  |.inl v=>.inl v
  |.inr t=>zvb t l
theorem ztr:∀(l:List Row)(k:Nat)(s:Filling),(match Kp168.all k s l with|.inl x=>(.inl x.1:Res)|.inr t=>.inr t)=zvb s l
 |[],k,s=>rfl
 |e::l,k,s=>by
  unfold Kp168.all zvb
  simp only
  cases Kp168.small (filled s e) with
  |false=>simp
  |true=>
   simp only[qjm,qe0,if_false]
   cases Kp168.one STEPS s (filled s e) with
   |inl v=>rfl
   |inr t=>exact ztr l (k+1) t
theorem zqa{n:Nat}{s:List Row}{e:Row}{l:List Row}(h:SOk n s)(he:WF e)(hl:Lo n e):zvb (zgy n s) (e::l)=match zcl n s e with|.inl v=>.inl v|.inr t=>zvb t l:=by
 unfold zcl
 rw[zvb,zgx h he hl]
 cases Kp168.small (filled s e) with
 |false=>simp
 |true=>
  simp only[qjm,qe0,Bool.true_eq_false,if_false]
  cases Kp168.one STEPS (zgy n s) (filled s e) <;> rfl
theorem zpn{n:Nat}{s:List Row}(h:SOk n s):(zgy n s).take n=s:=by
 unfold zgy
 rw[<-h.len];simp
theorem zow{n:Nat}(h:n<=24):SOk n ((qfk n).map ofPlace) where
 len:=by simp
 le:=h
 wf:=λx hx=>by
  obtain⟨p,_,rfl⟩:=qe1.mp hx
  exact zat p
 lo:=λx hx=>by
  obtain⟨p,hp,rfl⟩:=qe1.mp hx
  exact zf2 (qgo.mp hp)
theorem zm3{n:Nat}(h:n<=24):zgy n ((qfk n).map ofPlace)=itself:=by
 unfold zgy itself
 rw[<-qhs,<-qej]
 congr 1
 rw[show Kp168.PLACES=n+(24 - n) by show 24=_;lia,List.range_add,List.drop_append]
 simp
noncomputable def zy7(r:Row):Bool:=(za6 r).all λk=>decide (-IN<=k) && decide (k<=IN)
theorem qa2{n:Nat}{es:List Row}(h:n<=24)(hm:es.length<=256)(hes:∀e∈es,WF e/\Lo n e):Kp168.good ⟨es,es.length,n⟩=es.all zy7:=by
 unfold Kp168.good
 have e1:es.all (Kp168.goodRow n)=es.all zy7:=by
  rw[qfy,qeo,qeo]
  refine⟨λg x hx=>?_,λg x hx=>?_⟩
  ·have:=g x hx
   unfold Kp168.goodRow at this
   rw[qev]at this
   exact this.1
  ·unfold Kp168.goodRow
   rw[qev]
   refine⟨g x hx,empty_iff.mpr λj hj=>?_⟩
   have:=(hes x hx).2 (n+j) (by lia)
   unfold pl at this
   simpa [qfj,List.getElem?_drop] using this
 show (decide (es.length<=256) && decide (n<=24) && es.all (Kp168.goodRow n))=_
 rw[e1,decide_eq_true hm,decide_eq_true h];simp
noncomputable def zdv(n:Nat)(es:List Row):Int ⊕ List Row:=if es.all zy7=false then .inl (-22) else match zvb itself es with
 |.inl v=>.inl v
 |.inr t=>.inr (t.take n)
theorem zp8{n:Nat}{es:List Row}(h:n<=24)(hm:es.length<=256)(hes:∀e∈es,WF e/\Lo n e) :
  (match Kp168.answer ⟨es,es.length,n⟩ with|.num v=>(.inl v:Int ⊕ List Row)|.at_ v _=>.inl v|.out o=>.inr o)=zdv n es:=by
 unfold Kp168.answer zdv
 rw[qa2 h hm hes]
 cases es.all zy7 with
 |false=>simp
 |true=>
  simp only[Bool.true_eq_false,if_false]
  rw[<-ztr es 0 itself]
  cases Kp168.all 0 itself es with
  |inl x=>rfl
  |inr t=>rfl
open Kp169 (E Es Bytes St Known Kind kindE kindEs more held shift alike)
inductive Sx where
 |zero|number|name (x:Bytes)|call (f:Bytes) (n:Nat)|pw (k:Int)|times|over|alike|compare
mutual
noncomputable def za5:E->List Sx
 |.num v _=>[if v=0 then .zero else .number]
 |.var x=>[.name x]
 |.call f l=>zds l++[.call f l.list.length]
 |.neg e=>za5 e
 |.bin op a b=>za5 a++(za5 b++[if op=42 then .times else if op=47 then .over else .alike])
 |.pow e k=>za5 e++[.pw k]
 |.ite a b x y=>za5 a++(za5 b++(.compare::(za5 x++(za5 y++[.alike]))))
noncomputable def zds:Es->List Sx
 |.nil=>[]
 |.cons e l=>za5 e++zds l
end
structure MS where
 s:St
 st:List Row
noncomputable abbrev MR:=Except Int MS
noncomputable def zub(m:MS)(k:List Row->Row->Row->MR):MR:=match m.st.reverse with
 |y::x::r=>k r.reverse x y
 |_=>.error 0
noncomputable def zda(args of:List Row)(k:Nat)(s:St):St:=(qg8 args of).foldl (λt x=>alike x.1 (shift k x.2) t) s
noncomputable def zbd(known:Known)(ps:List Bytes):Sx->MS->MR
 |.zero,m=>match more 1 m.s with
  |.error v=>.error v
  |.ok q=>.ok ⟨q.2,m.st++[ofPlace q.1]⟩
 |.number,m=>.ok ⟨m.s,m.st++[nought]⟩
 |.name x,m=>match ps.idxOf? x with
  |some k=>.ok ⟨m.s,m.st++[ofPlace k]⟩
  |none=>match known.find? λq=>q.1 == x with
   |some q=>(match more q.2.places m.s with
    |.error v=>.error v
    |.ok z=>.ok ⟨z.2,m.st++[shift z.1 q.2.comes]⟩)
   |none=>.error 0
 |.call f _,m=>match known.find? λq=>q.1 == f with
  |some q=>if m.st.length<q.2.of.length then .error 0 else (match more q.2.places m.s with
   |.error v=>.error v
   |.ok z=>.ok ⟨zda (m.st.drop (m.st.length - q.2.of.length)) q.2.of z.1 z.2,m.st.take (m.st.length - q.2.of.length)++[shift z.1 q.2.comes]⟩)
  |none=>.error 0
 |.pw k,m=>match m.st.reverse with
  |x::r=>if Kp168.small (pow k x) then .ok ⟨m.s,r.reverse++[pow k x]⟩ else .error (-75)
  |[]=>.error 0
 |.times,m=>zub m λr x y=>if Kp168.small (mul x y) then .ok ⟨m.s,r++[mul x y]⟩ else .error (-75)
 |.over,m=>zub m λr x y=>if Kp168.small (mul x (pow (-1) y)) then .ok ⟨m.s,r++[mul x (pow (-1) y)]⟩ else .error (-75)
 |.alike,m=>zub m λr x y=>.ok ⟨alike x y m.s,r++[x]⟩
 |.compare,m=>zub m λr x y=>.ok ⟨alike x y m.s,r⟩
noncomputable def zji(known:Known)(ps:List Bytes):List Sx->MS->MR
 |[],m=>.ok m
 |x::l,m=>match zbd known ps x m with
  |.error v=>.error v
  |.ok m'=>zji known ps l m'
theorem zen{s:St}{st:List Row}{x y:Row}{k:List Row->Row->Row->MR}:zub ⟨s,st++[x]++[y]⟩ k=k st x y:=by
 unfold zub;simp
noncomputable def zqb(known:Known)(ps:List Bytes)(u:Bytes×Option Nat):Prop:=match u.2 with
 |none=>(ps.idxOf? u.1).isSome=true\/(known.find? λq=>q.1 == u.1).isSome=true
 |some n=>∃q,(known.find? λq=>q.1 == u.1)=some q/\q.2.of.length=n
theorem zm1(known:Known)(ps:List Bytes):∀(l:Es)(s:St)(rs:List Row)(s':St),kindEs known ps l s=.ok (rs,s')->rs.length=l.list.length
 |.nil,s,rs,s',h=>by
  simp only[kindEs,Except.ok.injEq,Prod.mk.injEq]at h
  rw[<-h.1];rfl
 |.cons e l,s,rs,s',h=>by
  simp only[kindEs,bind,Except.bind,pure,Except.pure]at h
  cases h1:kindE known ps e s with
  |error v=>rw[h1]at h;cases h
  |ok x=>
   rw[h1]at h
   simp only at h
   cases h2:kindEs known ps l x.2 with
   |error v=>rw[h2]at h;cases h
   |ok y=>
    rw[h2]at h
    simp only[Except.ok.injEq,Prod.mk.injEq]at h
    rw[<-h.1]
    simp only[qeg,Es.list]
    rw[zm1 known ps l x.2 y.1 y.2 h2]
mutual
theorem zcn(known:Known)(ps:List Bytes):∀(e:E)(rest:List Sx)(s:St)(st:List Row),(∀u∈e.uses,zqb known ps u) ->
  zji known ps (za5 e++rest) ⟨s,st⟩=match kindE known ps e s with|.error v=>.error v|.ok q=>zji known ps rest ⟨q.2,st++[q.1]⟩
 |.num v t,rest,s,st,h=>by
  simp only[za5,kindE]
  by_cases hv:v=0
  ·simp only[hv,if_true,qfz,qfp,zji,zbd,bind,Except.bind,pure,Except.pure]
   cases more 1 s <;> rfl
  ·simp only[hv,if_false,qfz,qfp,zji,zbd]
 |.var x,rest,s,st,h=>by
  have hu:=h (x,none) (by simp[E.uses])
  simp only[za5,kindE,qfz,qfp,zji,zbd]
  cases h1:ps.idxOf? x with
  |some k=>rfl
  |none=>
   cases h2:known.find? λq=>q.1 == x with
   |none=>
    exfalso
    simp only[zqb,h1,h2]at hu
    simp at hu
   |some q=>
    simp only[bind,Except.bind,pure,Except.pure]
    cases more q.2.places s <;> rfl
 |.call f l,rest,s,st,h=>by
  have hu:=h (f,some l.list.length) (by simp[E.uses])
  obtain⟨q,hq,hlen⟩:=hu
  simp only at hq
  simp only[za5,kindE,qfc]
  rw[zoz known ps l _ s st λu hm=>h u (by simp[E.uses,hm])]
  simp only[bind,Except.bind,pure,Except.pure]
  cases h1:kindEs known ps l s with
  |error v=>rfl
  |ok a=>
   have hal:=zm1 known ps l s a.1 a.2 h1
   simp only[qfz,qfp,zji,zbd,hq]
   have e1:(st++a.1).length - q.2.of.length=st.length:=by rw[qee,hal,hlen];lia
   rw[if_neg (by rw[qee,hal,hlen];lia),e1]
   cases more q.2.places a.2 with
   |error v=>rfl
   |ok z=>simp[zda]
 |.neg e,rest,s,st,h=>by
  simp only[za5,kindE]
  exact zcn known ps e rest s st λu hm=>h u (by simpa [E.uses] using hm)
 |.bin op a b,rest,s,st,h=>by
  simp only[za5,kindE,qfc]
  rw[zcn known ps a _ s st λu hm=>h u (by simp[E.uses,hm])]
  simp only[bind,Except.bind,pure,Except.pure]
  cases kindE known ps a s with
  |error v=>rfl
  |ok x=>
   simp only
   rw[zcn known ps b _ x.2 _ λu hm=>h u (by simp[E.uses,hm])]
   cases kindE known ps b x.2 with
   |error v=>rfl
   |ok y=>
    simp only[qfz,qfp,zji]
    by_cases h42:op=42
    ·simp only[h42,if_true,zbd,zen,held]
     cases Kp168.small (mul x.1 y.1) <;> simp
    ·by_cases h47:op=47
     ·simp only[h47,if_true,held]
      simp only[show ¬(47=42) by decide,if_false]
      rw[show (zbd known ps Sx.over ⟨y.2,st++[x.1]++[y.1]⟩)=(if Kp168.small (mul x.1 (pow (-1) y.1)) then .ok ⟨y.2,st++[mul x.1 (pow (-1) y.1)]⟩ else .error (-75)) by rw[zbd,zen]]
      cases Kp168.small (mul x.1 (pow (-1) y.1)) <;> simp
     ·simp only[h42,h47,if_false,zbd,zen]
 |.pow e k,rest,s,st,h=>by
  simp only[za5,kindE,qfc]
  rw[zcn known ps e _ s st λu hm=>h u (by simpa [E.uses] using hm)]
  simp only[bind,Except.bind,pure,Except.pure]
  cases kindE known ps e s with
  |error v=>rfl
  |ok x=>
   simp only[qfz,qfp,zji,zbd,held]
   simp only[List.reverse_append,List.reverse_cons,List.reverse_nil,qfp,qfz,List.reverse_reverse]
   cases Kp168.small (pow k x.1) <;> simp
 |.ite a b x y,rest,s,st,h=>by
  simp only[za5,kindE,qfc]
  rw[zcn known ps a _ s st λu hm=>h u (by simp[E.uses,hm])]
  simp only[bind,Except.bind,pure,Except.pure]
  cases kindE known ps a s with
  |error v=>rfl
  |ok p=>
   simp only
   rw[zcn known ps b _ p.2 _ λu hm=>h u (by simp[E.uses,hm])]
   cases kindE known ps b p.2 with
   |error v=>rfl
   |ok q=>
    simp only[qfz,zji,zbd,zen]
    rw[qfc,qfc,zcn known ps x _ _ _ λu hm=>h u (by simp[E.uses,hm])]
    cases kindE known ps x (alike p.1 q.1 q.2) with
    |error v=>rfl
    |ok u=>
     simp only
     rw[zcn known ps y _ _ _ λu hm=>h u (by simp[E.uses,hm])]
     cases kindE known ps y u.2 with
     |error v=>rfl
     |ok v=>simp only[qfz,qfp,zji,zbd,zen]
theorem zoz(known:Known)(ps:List Bytes):∀(l:Es)(rest:List Sx)(s:St)(st:List Row),(∀u∈l.uses,zqb known ps u) ->
  zji known ps (zds l++rest) ⟨s,st⟩=match kindEs known ps l s with|.error v=>.error v|.ok q=>zji known ps rest ⟨q.2,st++q.1⟩
 |.nil,rest,s,st,h=>by simp[zds,kindEs]
 |.cons e l,rest,s,st,h=>by
  simp only[zds,kindEs,qfc]
  rw[zcn known ps e _ s st λu hm=>h u (by simp[Es.uses,hm])]
  simp only[bind,Except.bind,pure,Except.pure]
  cases kindE known ps e s with
  |error v=>rfl
  |ok x=>
   simp only
   rw[zoz known ps l _ x.2 _ λu hm=>h u (by simp[Es.uses,hm])]
   cases kindEs known ps l x.2 with
   |error v=>rfl
   |ok y=>simp
end
open Kp169 (E Es Bytes St Known Kind kindE kindEs more held shift alike placesOf renumber closed found)
theorem qbp{n:Nat}:∀(f:Nat)(s:List Row)(r:Row)(t:Filling),SOk n s->WF r->Lo n r->Kp168.one f (zgy n s) r=.inr t->∃s',t=zgy n s'/\SOk n s'
 |0,s,r,t,h,_,_,e=>by
  rw[Kp168.one]at e
  cases e
  exact⟨s,rfl,h⟩
 |f+1,s,r,t,h,hr,hl,e=>by
  cases hn:nearest r.place with
  |none=>
   rw[zsz hn]at e
   split at e
   ·cases e;exact⟨s,rfl,h⟩
   ·cases e
  |some q=>
   obtain⟨p,a⟩:=q
   rw[zsy h hr hl hn]at e
   obtain⟨h1,h2,h3⟩:=zvt h hr hl hn
   split at e
   ·cases e
   ·split at e
    ·cases e
    ·split at e
     ·split at e
      ·cases e;exact⟨_,rfl,zox h1 (zic hr hl hn).1⟩
      ·cases e
     ·exact qbp f _ _ t h1 h2 h3 e
theorem zv8{n:Nat}{s:List Row}{e:Row}{t:Filling}(h:SOk n s)(he:WF e)(hl:Lo n e)(q:zcl n s e=.inr t):∃s',t=zgy n s'/\SOk n s':=by
 unfold zcl at q
 split at q
 ·cases q
 ·exact qbp _ _ _ t h (zbs he h.wf) (zpd he h.wf h.lo) q
theorem zyw{n:Nat}:∀(es:List Row)(s:List Row)(t:Filling),SOk n s->(∀e∈es,WF e/\Lo n e)->zvb (zgy n s) es=.inr t->∃s',t=zgy n s'/\SOk n s'
 |[],s,t,h,_,e=>by cases e;exact⟨s,rfl,h⟩
 |x::es,s,t,h,hes,e=>by
  obtain⟨hx,hlx⟩:=hes x (by simp)
  rw[zqa h hx hlx]at e
  cases q:zcl n s x with
  |inl v=>rw[q]at e;cases e
  |inr u=>
   rw[q]at e
   obtain⟨s1,rfl,h1⟩:=zv8 h hx hlx q
   exact zyw es s1 t h1 (λy hy=>hes y (by simp[hy])) e
theorem zsg{n:Nat}{es:List Row}{o:List Row}(hn:n<=24)(hes:∀e∈es,WF e/\Lo n e)(h:zdv n es=.inr o):SOk n o:=by
 unfold zdv at h
 split at h
 ·cases h
 ·cases q:zvb itself es with
  |inl v=>rw[q]at h;cases h
  |inr t=>
   rw[q]at h
   cases h
   rw[<-zm3 hn]at q
   obtain⟨s',rfl,h'⟩:=zyw es _ t (zow hn) hes q
   rw[zpn h'];exact h'
noncomputable def zbm(b:List Nat)(p:Nat):List Nat:=if b.contains p then b else b++[p]
noncomputable def zdl(b:List Nat)(r:Row):List Nat:=(qfk 24).foldl (λb p=>if pl r p=0 then b else zbm b p) b
theorem zgn(l:List Row):placesOf l=l.foldl zdl []:=by
 unfold placesOf
 rw[List.foldl_flatMap]
 congr 1
 funext b r
 unfold zdl
 rw[List.foldl_filter]
 congr 1
 funext b p
 unfold pl zbm
 by_cases h:r.place.getD p 0=0 <;> simp[h]
structure OOk(b:List Nat):Prop where
 nd:b.Nodup
 lt:∀p∈b,p<24
theorem qan{b:List Nat}{p:Nat}(h:OOk b)(hp:p<24):OOk (zbm b p):=by
 unfold zbm
 split
 ·exact h
 ·next hc=>
  have hm:p ∉ b:=by simpa using hc
  refine⟨?_,λq hq=>?_⟩
  ·rw[qim]
   exact⟨h.nd,by simp,λx hx y hy=>by rw[qew.mp hy];exact λe=>hm (e▸hx)⟩
  ·rcases qeq.mp hq with z|z
   ·exact h.lt q z
   ·rw[qew.mp z];exact hp
theorem zgq(r:Row):∀(l:List Nat)(b:List Nat),OOk b->(∀p∈l,p<24) ->
  OOk (l.foldl (λb p=>if pl r p=0 then b else zbm b p) b)/\(∀p∈b,p∈l.foldl (λb p=>if pl r p=0 then b else zbm b p) b) ∧
   ∀p∈l,pl r p≠0->p∈l.foldl (λb p=>if pl r p=0 then b else zbm b p) b
 |[],b,h,_=>⟨h,λ_ x=>x,λ_ x=>by simp at x⟩
 |q::l,b,h,hl=>by
  simp only[qf7]
  have hb:OOk (if pl r q=0 then b else zbm b q):=by
   split
   ·exact h
   ·exact qan h (hl q (by simp))
  obtain⟨h1,h2,h3⟩:=zgq r l _ hb λp hp=>hl p (by simp[hp])
  refine⟨h1,λp hp=>h2 p ?_,λp hp hn=>?_⟩
  ·split
   ·exact hp
   ·unfold zbm;split
    ·exact hp
    ·simp[hp]
  ·rcases qer.mp hp with rfl|hp
   ·refine h2 p ?_
    rw[if_neg hn]
    unfold zbm;split
    ·next hc=>simpa using hc
    ·simp
   ·exact h3 p hp hn
theorem zwx{b:List Nat}(r:Row)(h:OOk b):OOk (zdl b r)/\(∀p∈b,p∈zdl b r)/\∀p,p<24->pl r p≠0->p∈zdl b r:=by
 obtain⟨h1,h2,h3⟩:=zgq r (qfk 24) b h λp hp=>qgo.mp hp
 exact⟨h1,h2,λp hp hn=>h3 p (qgo.mpr hp) hn⟩
theorem zh6:∀(l:List Row)(b:List Nat),OOk b->OOk (l.foldl zdl b)/\(∀p∈b,p∈l.foldl zdl b)/\∀r∈l,∀p,p<24->pl r p≠0->p∈l.foldl zdl b
 |[],b,h=>⟨h,λ_ x=>x,λ_ x=>by simp at x⟩
 |r::l,b,h=>by
  obtain⟨g1,g2,g3⟩:=zwx r h
  obtain⟨h1,h2,h3⟩:=zh6 l _ g1
  refine⟨h1,λp hp=>h2 p (g2 p hp),λx hx p hp hn=>?_⟩
  rcases qer.mp hx with rfl|hx
  ·exact h2 p (g3 p hp hn)
  ·exact h3 x hx p hp hn
theorem znn:∀(n:Nat)(l:List Nat),l.Nodup->(∀p∈l,p<n)->l.length<=n
 |0,l,_,h=>by
  cases l with
  |nil=>simp
  |cons x l=>exact absurd (h x (by simp)) (by lia)
 |n+1,l,hd,h=>by
  have:=znn n (l.filter (· != n)) (hd.filter _) λp hp=>by
   obtain⟨h1,h2⟩:=qgb.mp hp
   have:=h p h1
   have:p≠n:=by simpa using h2
   lia
  have e:l.length<=(l.filter (· != n)).length+1:=by
   by_cases hm:n∈l
   ·have:=List.length_erase_of_mem hm
    have q:l.erase n=l.filter (· != n):=hd.erase_eq_filter n
    rw[<-q];lia
   ·have q:l.filter (· != n)=l:=qjg.mpr λx hx=>by
     simp only[bne_iff_ne,ne_eq];exact λz=>hm (z▸hx)
    rw[q];lia
  lia
theorem zgm(l:List Row):OOk (placesOf l)/\(placesOf l).length<=24/\∀r∈l,∀p,p<24->pl r p≠0->p∈placesOf l:=by
 rw[zgn]
 obtain⟨h1,_,h3⟩:=zh6 l [] ⟨by simp,by simp⟩
 exact⟨h1,znn 24 _ h1.nd h1.lt,h3⟩
theorem zd5{o:List Nat}{r:Row}(ho:o.length<=24):(renumber o r).place=o.map (pl r)++qem (24 - o.length) 0:=by
 unfold renumber
 simp only[Kp168.PLACES]
 apply List.ext_getElem
 ·simp;lia
 ·intro i h1 h2
  simp only[List.getElem_map,List.getElem_range]
  by_cases hi:i<o.length
  ·rw[List.getElem_append_left (by simpa using hi)]
   simp[hi,pl]
  ·rw[List.getElem_append_right (by simpa using hi)]
   simp[qfx (by lia:o.length<=i)]
theorem znv{o:List Nat}{r:Row}(ho:o.length<=24):r.mark++o.map (pl r)++qem (24 - o.length) 0=za6 (renumber o r):=by
 unfold za6
 rw[zd5 ho]
 show _=r.mark++_
 simp
theorem zem{o:List Nat}{r:Row}(h:WF r):WF (renumber o r):=⟨h.m,by simp[renumber,Kp168.PLACES]⟩
theorem zkq{o:List Nat}{r:Row}(ho:o.length<=24):Lo o.length (renumber o r):=λj hj=>by
 unfold pl
 rw[zd5 ho,qfj,qge (by simpa using hj),qg0]
 split <;> rfl
theorem zcv{o:List Nat}{r:Row}(h:WF r)(ho:o.length<=24)(hc:∀p,p<24->pl r p≠0->p∈o):Kp168.small (renumber o r)=Kp168.small r:=by
 unfold Kp168.small
 rw[zd5 ho]
 show (r.mark++_).all _=_
 rw[qf3,qf3,qf3]
 congr 1
 have e0:((qem (24 - o.length) (0:Int)).all λk=>decide (-MOST<=k) && decide (k<=MOST))=true:=
  qeo.mpr λx hx=>by rw[qf9 hx];decide
 rw[e0,qis,qfy,qeo,qeo]
 refine⟨λg x hx=>?_,λg x hx=>?_⟩
 ·obtain⟨j,hj,rfl⟩:=qgy.mp hx
  have ej:pl r j=r.place[j]:=by unfold pl;simp[qgm,hj]
  by_cases hz:pl r j=0
  ·rw[<-ej,hz];decide
  ·have:=g (pl r j) (qe1.mpr ⟨j,hc j (by rw[h.p]at hj;exact hj) hz,rfl⟩)
   rw[ej]at this;exact this
 ·obtain⟨p,hp,rfl⟩:=qe1.mp hx
  by_cases hj:p<r.place.length
  ·exact g _ (by unfold pl;simp[qgm,hj])
  ·have:pl r p=0:=by unfold pl;rw[qfj,qfx (by lia)];rfl
   rw[this];decide
structure KOk(q:Kind):Prop where
 wc:WF q.comes
 lc:Lo q.places q.comes
 sc:Kp168.small q.comes=true
 wo:∀x∈q.of,WF x
 lo:∀x∈q.of,Lo q.places x
 le:q.places<=24
theorem zyq{rows:List Row}{comes:Row}(h1:∀x∈rows,WF x)(h2:WF comes)(h3:Kp168.small comes=true):KOk (closed rows comes):=by
 obtain⟨g1,g2,g3⟩:=zgm (rows++[comes])
 refine⟨zem h2,zkq g2,(zcv h2 g2 (g3 comes (by simp))).trans h3,λx hx=>?_,λx hx=>?_,g2⟩
 ·obtain⟨y,hy,rfl⟩:=qe1.mp hx
  exact zem (h1 y hy)
 ·obtain⟨y,hy,rfl⟩:=qe1.mp hx
  exact zkq g2
theorem zpx{rows:List Row}{comes:Row}(h1:∀x∈rows,WF x)(h2:WF comes) :
  ((closed rows comes).comes::(closed rows comes).of).all Kp168.small=(rows.all Kp168.small && Kp168.small comes):=by
 obtain⟨g1,g2,g3⟩:=zgm (rows++[comes])
 have e1:Kp168.small (closed rows comes).comes=Kp168.small comes:=zcv h2 g2 (g3 comes (by simp))
 have e2:(closed rows comes).of.all Kp168.small=rows.all Kp168.small:=by
  show (rows.map (renumber _)).all _=_
  rw[qih,qfy,qeo,qeo]
  refine⟨λg x hx=>?_,λg x hx=>?_⟩
  ·have:=g x hx
   rw[<-zcv (h1 x hx) g2 (g3 x (by simp[hx]))];exact this
  ·show Kp168.small (renumber _ x)=true
   rw[zcv (h1 x hx) g2 (g3 x (by simp[hx]))];exact g x hx
 rw[qg1,e1,e2,Bool.and_comm]
theorem zpq{α β:Type}:∀(l:List α)(b:β),l.foldl (λb _=>b) b=b
 |[],_=>rfl
 |_::l,b=>zpq l b
theorem zrr{u:Nat}:closed [] (ofMark u)=⟨0,0,[],ofMark u⟩:=by
 have e:placesOf [ofMark u]=[]:=by
  have hz:∀p,pl (ofMark u) p=0:=zdj
  rw[zgn]
  show zdl [] (ofMark u)=[]
  unfold zdl
  simp only[hz,if_true]
  exact zpq _ _
 unfold closed
 simp only[qfp,e]
 show Kind.mk 0 0 [] (renumber [] (ofMark u))=_
 congr 1
open Kp169 (E Es Bytes St Known Kind kindE kindEs more held shift alike placesOf renumber closed found Item)
structure ROk'(n:Nat)(r:Row):Prop where
 wf:WF r
 lo:Lo n r
 sm:Kp168.small r=true
structure MOk(k:Nat)(m:MS):Prop where
 le:m.s.n<=24
 ge:k<=m.s.n
 st:∀r∈m.st,ROk' m.s.n r
 eq:∀e∈m.s.eqs,WF e/\Lo m.s.n e
theorem ROk'.mono{n m:Nat}{r:Row}(h:ROk' n r)(hm:n<=m):ROk' m r:=⟨h.wf,zre h.lo hm,h.sm⟩
theorem zol:Kp168.small nought=true:=by decide
theorem zok(u:Nat):Kp168.small (ofMark u)=true:=by
 have h:∀k∈(ofMark u).mark++(ofMark u).place,k=0\/k=1:=by
  intro k hk
  rcases qeq.mp hk with z|z
  ·rcases qgw z with y|y
   ·exact .inl (qf9 y)
   ·exact .inr y
  ·exact .inl (qf9 z)
 unfold Kp168.small
 rw[qeo]
 intro k hk
 rcases h k hk with rfl|rfl <;> decide
theorem zjy{k:Nat}{r:Row}(h:Kp168.small r=true):Kp168.small (shift k r)=true:=by
 unfold Kp168.small at *
 rw[qeo]at *
 intro x hx
 rcases qeq.mp hx with z|z
 ·exact h x (qft _ z)
 ·rcases qeq.mp (qgc z) with y|y
  ·rw[qf9 y];decide
  ·exact h x (qfi _ y)
theorem zgs{k:Nat}{s:St}{q:Nat×St}(h:more k s=.ok q):q.1=s.n/\q.2.n=s.n+k/\q.2.eqs=s.eqs/\s.n+k<=24:=by
 unfold more at h
 split at h
 ·next hl=>cases h;exact⟨rfl,rfl,rfl,hl⟩
 ·cases h
theorem qat{k:Nat}{s:St}{v:Int}(h:more k s=.error v):v=-28:=by
 unfold more at h
 split at h
 ·cases h
 ·cases h;rfl
theorem zd4{k:Nat}{m:MS}{s':St}{l:List Row}(h:MOk k m)(hn:m.s.n<=s'.n)(h24:s'.n<=24)(hl:∀r∈l,r∈m.st\/ROk' s'.n r)(he:∀e∈s'.eqs,e∈m.s.eqs\/(WF e/\Lo s'.n e)):MOk k ⟨s',l⟩ where
 le:=h24
 ge:=qfq h.ge hn
 st:=λr hr=>(hl r hr).elim (λz=>(h.st r z).mono hn) id
 eq:=λe hm=>(he e hm).elim (λz=>⟨(h.eq e z).1,zre (h.eq e z).2 hn⟩) id
theorem zhw{n:Nat}{x y:Row}(hx:WF x/\Lo n x)(hy:WF y/\Lo n y):WF (mul x (pow (-1) y))/\Lo n (mul x (pow (-1) y)):=
 ⟨zes hx.1 (zbv _ hy.1),zxs hx.1 (zbv _ hy.1) hx.2 (zxp _ hy.2)⟩
theorem zht(k:Nat):∀(a o:List Row)(s:St),(zda a o k s).n=s.n
 |[],o,s=>by simp[zda]
 |_::_,[],s=>by simp[zda]
 |x::a,y::o,s=>by
  show (zda a o k (alike x (shift k y) s)).n=s.n
  rw[zht k a o];rfl
theorem zf5(k:Nat):∀(a o:List Row)(s:St),(zda a o k s).eqs=s.eqs++qeu (λx y=>mul x (pow (-1) (shift k y))) a o
 |[],o,s=>by simp[zda]
 |_::_,[],s=>by simp[zda]
 |x::a,y::o,s=>by
  show (zda a o k (alike x (shift k y) s)).eqs=_
  rw[zf5 k a o]
  simp[alike]
theorem zkn{α β γ:Type}{f:α->β->γ}{z:γ}:∀{a:List α}{b:List β},z∈qeu f a b->∃x∈a,∃y∈b,z=f x y
 |[],_,h=>by simp at h
 |_::_,[],h=>by simp at h
 |x::a,y::b,h=>by
  simp only[qf1,qer]at h
  rcases h with rfl|h
  ·exact⟨x,by simp,y,by simp,rfl⟩
  ·obtain⟨x',h1,y',h2,e⟩:=zkn h
   exact⟨x',by simp[h1],y',by simp[h2],e⟩
theorem zyb{known:Known}{x:Bytes}{q:Bytes×Kind}(hk:∀q∈known,KOk q.2)(h:(known.find? λq=>q.1 == x)=some q):KOk q.2:=hk q (qgh h)
theorem idx_lt{ps:List Bytes}{x:Bytes}{k:Nat}(h:ps.idxOf? x=some k):k<ps.length:=by
 have:=qht.mp h
 exact this.1
theorem rev2{α:Type}{l r:List α}{y x:α}(h:l.reverse=y::x::r):l=r.reverse++[x]++[y]:=by
 have:=congrArg List.reverse h
 simpa using this
theorem rev1{α:Type}{l r:List α}{x:α}(h:l.reverse=x::r):l=r.reverse++[x]:=by
 have:=congrArg List.reverse h
 simpa using this
theorem zs7{known:Known}{ps:List Bytes}(hk:∀q∈known,KOk q.2){x:Sx}{m m':MS}(h:MOk ps.length m)(e:zbd known ps x m=.ok m'):MOk ps.length m':=by
 have two:∀{k:List Row->Row->Row->MR},zub m k=.ok m'->∃r a b,m.st=r++[a]++[b]/\k r a b=.ok m':=by
  intro k e
  unfold zub at e
  split at e
  ·next y x r hr=>exact⟨_,_,_,rev2 hr,e⟩
  ·cases e
 cases x with
 |zero=>
  simp only[zbd]at e
  cases q:more 1 m.s with
  |error v=>rw[q]at e;cases e
  |ok z=>
   rw[q]at e;cases e
   obtain⟨h1,h2,h3,h4⟩:=zgs q
   refine zd4 h (by lia) (by lia) (λr hr=>?_) λe he=>.inl (h3▸he)
   rcases qeq.mp hr with z|z
   ·exact .inl z
   ·rw[qew.mp z]
    exact .inr ⟨zat _,zf2 (by lia),zck _⟩
 |number=>
  simp only[zbd]at e;cases e
  refine zd4 h (qek _) h.le (λr hr=>?_) λe he=>.inl he
  rcases qeq.mp hr with z|z
  ·exact .inl z
  ·rw[qew.mp z]
   exact .inr ⟨zb5,zxr _,zol⟩
 |name y=>
  simp only[zbd]at e
  cases q:ps.idxOf? y with
  |some k=>
   rw[q]at e;cases e
   refine zd4 h (qek _) h.le (λr hr=>?_) λe he=>.inl he
   rcases qeq.mp hr with z|z
   ·exact .inl z
   ·rw[qew.mp z]
    exact .inr ⟨zat _,zf2 (qep (idx_lt q) h.ge),zck _⟩
  |none=>
   rw[q]at e
   simp only at e
   cases f:known.find? λq=>q.1 == y with
   |none=>rw[f]at e;cases e
   |some g=>
    rw[f]at e
    simp only at e
    have gk:=zyb hk f
    cases q2:more g.2.places m.s with
    |error v=>rw[q2]at e;cases e
    |ok z=>
     rw[q2]at e;cases e
     obtain⟨h1,h2,h3,h4⟩:=zgs q2
     refine zd4 h (by lia) (by lia) (λr hr=>?_) λe he=>.inl (h3▸he)
     rcases qeq.mp hr with z'|z'
     ·exact .inl z'
     ·rw[qew.mp z',h1]
      exact .inr ⟨zfv _ gk.wc,h2▸znq gk.wc gk.lc,zjy gk.sc⟩
 |call f n=>
  simp only[zbd]at e
  cases q:known.find? λq=>q.1 == f with
  |none=>rw[q]at e;cases e
  |some g=>
   rw[q]at e
   simp only at e
   have gk:=zyb hk q
   split at e
   ·cases e
   ·cases q2:more g.2.places m.s with
    |error v=>rw[q2]at e;cases e
    |ok z=>
     rw[q2]at e;cases e
     obtain⟨h1,h2,h3,h4⟩:=zgs q2
     refine zd4 h (by rw[zht];lia) (by rw[zht];lia) (λr hr=>?_) λe he=>?_
     ·rcases qeq.mp hr with z'|z'
      ·exact .inl (qgc z')
      ·rw[qew.mp z',h1,zht]
       exact .inr ⟨zfv _ gk.wc,h2▸znq gk.wc gk.lc,zjy gk.sc⟩
     ·rw[zf5,h3]at he
      rcases qeq.mp he with z'|z'
      ·exact .inl z'
      ·obtain⟨a,ha,b,hb,rfl⟩:=zkn z'
       have ra:=h.st a (qey ha)
       rw[zht,h2,h1]
       exact .inr (zhw ⟨ra.wf,zre ra.lo (by lia)⟩ ⟨zfv _ (gk.wo b hb),znq (gk.wo b hb) (gk.lo b hb)⟩)
 |pw k=>
  simp only[zbd]at e
  split at e
  ·next x r hr=>
   split at e
   ·next hs=>
    cases e
    have hst:=rev1 hr
    have rx:=h.st x (by rw[hst];simp)
    refine zd4 h (qek _) h.le (λy hy=>?_) λe he=>.inl he
    rcases qeq.mp hy with z|z
    ·exact .inl (by rw[hst];exact qft _ z)
    ·rw[qew.mp z];exact .inr ⟨zbv _ rx.wf,zxp _ rx.lo,hs⟩
   ·cases e
  ·cases e
 |times=>
  simp only[zbd]at e
  obtain⟨r,a,b,hst,e⟩:=two e
  have ra:=h.st a (by rw[hst];simp)
  have rb:=h.st b (by rw[hst];simp)
  split at e
  ·next hs=>
   cases e
   refine zd4 h (qek _) h.le (λy hy=>?_) λe he=>.inl he
   rcases qeq.mp hy with z|z
   ·exact .inl (by rw[hst];simp[z])
   ·rw[qew.mp z];exact .inr ⟨zes ra.wf rb.wf,zxs ra.wf rb.wf ra.lo rb.lo,hs⟩
  ·cases e
 |over=>
  simp only[zbd]at e
  obtain⟨r,a,b,hst,e⟩:=two e
  have ra:=h.st a (by rw[hst];simp)
  have rb:=h.st b (by rw[hst];simp)
  split at e
  ·next hs=>
   cases e
   refine zd4 h (qek _) h.le (λy hy=>?_) λe he=>.inl he
   rcases qeq.mp hy with z|z
   ·exact .inl (by rw[hst];simp[z])
   ·rw[qew.mp z]
    have:=zhw ⟨ra.wf,ra.lo⟩ ⟨rb.wf,rb.lo⟩
    exact .inr ⟨this.1,this.2,hs⟩
  ·cases e
 |alike=>
  simp only[zbd]at e
  obtain⟨r,a,b,hst,e⟩:=two e
  have ra:=h.st a (by rw[hst];simp)
  have rb:=h.st b (by rw[hst];simp)
  cases e
  refine zd4 h (qek _) h.le (λy hy=>?_) λe he=>?_
  ·rcases qeq.mp hy with z|z
   ·exact .inl (by rw[hst];simp[z])
   ·rw[qew.mp z];exact .inr ra
  ·rcases qeq.mp he with z|z
   ·exact .inl z
   ·rw[qew.mp z];exact .inr (zhw ⟨ra.wf,ra.lo⟩ ⟨rb.wf,rb.lo⟩)
 |compare=>
  simp only[zbd]at e
  obtain⟨r,a,b,hst,e⟩:=two e
  have ra:=h.st a (by rw[hst];simp)
  have rb:=h.st b (by rw[hst];simp)
  cases e
  refine zd4 h (qek _) h.le (λy hy=>.inl (by rw[hst];simp[hy])) λe he=>?_
  rcases qeq.mp he with z|z
  ·exact .inl z
  ·rw[qew.mp z];exact .inr (zhw ⟨ra.wf,ra.lo⟩ ⟨rb.wf,rb.lo⟩)
theorem zq9{known:Known}{ps:List Bytes}(hk:∀q∈known,KOk q.2):∀(l:List Sx)(m m':MS),MOk ps.length m->zji known ps l m=.ok m'->MOk ps.length m'
 |[],m,m',h,e=>by cases e;exact h
 |x::l,m,m',h,e=>by
  simp only[zji]at e
  cases q:zbd known ps x m with
  |error v=>rw[q]at e;cases e
  |ok m1=>rw[q]at e;exact zq9 hk l m1 m' (zs7 hk h q) e
noncomputable def zd8(k:Nat):MS:=⟨⟨k,[]⟩,[]⟩
theorem zjw{k:Nat}(h:k<=24):MOk k (zd8 k):=⟨h,qek _,λr hr=>by simp[zd8]at hr,λe he=>by simp[zd8]at he⟩
noncomputable def zhp(known:Known)(ps:List Bytes)(l:List Sx):Int ⊕ Kind:=match zji known ps l (zd8 ps.length) with
 |.error v=>.inl v
 |.ok m=>if 256<m.s.eqs.length then .inl (-28) else match zdv m.s.n m.s.eqs with
  |.inl v=>.inl v
  |.inr o=>if ((qfk ps.length).map λk=>filled o (ofPlace k)).all Kp168.small && Kp168.small (filled o (m.st.headD nought)) then
    .inr (closed ((qfk ps.length).map λk=>filled o (ofPlace k)) (filled o (m.st.headD nought))) else .inl (-75)
theorem zth{known:Known}{ps:List Bytes}{e:E}(hk:∀q∈known,KOk q.2)(hp:ps.length<=24)(hu:∀u∈e.uses,zqb known ps u):found known ps e=zhp known ps (za5 e):=by
 unfold found zhp
 have hrun:=zcn known ps e [] ⟨ps.length,[]⟩ [] hu
 rw[qfe]at hrun
 show _=(match zji known ps (za5 e) ⟨⟨ps.length,[]⟩,[]⟩ with|.error v=>_|.ok m=>_)
 rw[hrun]
 cases hq:kindE known ps e ⟨ps.length,[]⟩ with
 |error v=>rfl
 |ok q=>
  rw[hq]at hrun
  simp only[zji,qfp]at hrun ⊢
  obtain⟨r,s⟩:=q
  have hm:=zq9 hk _ _ _ (zjw hp) hrun
  simp only at hm ⊢
  by_cases hl:256<s.eqs.length
  ·rw[if_pos hl]
   show (if Kp168.EQS<s.eqs.length then _ else _)=_
   rw[if_pos (show Kp168.EQS<s.eqs.length from hl)]
  ·rw[if_neg hl]
   show (if Kp168.EQS<s.eqs.length then _ else _)=_
   rw[if_neg (show ¬Kp168.EQS<s.eqs.length from hl)]
   have ha:=zp8 hm.le (by show s.eqs.length<=256;lia) hm.eq
   simp only at ha
   cases hs:zdv s.n s.eqs with
   |inl v=>
    rw[hs]at ha
    cases hA:Kp168.answer ⟨s.eqs,s.eqs.length,s.n⟩ with
    |num w=>rw[hA]at ha;cases ha;rfl
    |at_ w k=>rw[hA]at ha;cases ha;rfl
    |out o=>rw[hA]at ha;cases ha
   |inr o=>
    have ok:=zsg hm.le hm.eq hs
    rw[hs]at ha
    cases hA:Kp168.answer ⟨s.eqs,s.eqs.length,s.n⟩ with
    |num w=>rw[hA]at ha;cases ha
    |at_ w k=>rw[hA]at ha;cases ha
    |out o'=>
     rw[hA]at ha
     simp only[Sum.inr.injEq]at ha
     subst ha
     have hr:=hm.st r (by simp)
     have e1:((qfk ps.length).map λk=>filled (o'++itself.drop s.n) (ofPlace k))=(qfk ps.length).map λk=>filled o' (ofPlace k):=
      qf2 λk hk'=>zgx ok (zat k) (zf2 (qep (qgo.mp hk') hm.ge))
     have e2:filled (o'++itself.drop s.n) r=filled o' r:=zgx ok hr.wf hr.lo
     simp only[e1,e2,List.headD_cons]
     rw[zpx (λx hx=>by
      obtain⟨k,_,rfl⟩:=qe1.mp hx
      exact zbs (zat k) ok.wf) (zbs hr.wf ok.wf)]
     rfl
theorem qdv{known:Known}{ps:List Bytes}{l:List Sx}{q:Kind}(hk:∀q∈known,KOk q.2)(hp:ps.length<=24)(h:zhp known ps l=.inr q):KOk q:=by
 unfold zhp at h
 cases hr:zji known ps l (zd8 ps.length) with
 |error v=>rw[hr]at h;cases h
 |ok m=>
  rw[hr]at h
  simp only at h
  have hm:=zq9 hk _ _ _ (zjw hp) hr
  split at h
  ·cases h
  ·cases hs:zdv m.s.n m.s.eqs with
   |inl v=>rw[hs]at h;cases h
   |inr o=>
    rw[hs]at h
    simp only at h
    have ok:=zsg hm.le hm.eq hs
    split at h
    ·next hsm=>
     cases h
     rw[qev]at hsm
     refine zyq (λx hx=>?_) (zbs ?_ ok.wf) hsm.2
     ·obtain⟨k,_,rfl⟩:=qe1.mp hx
      exact zbs (zat k) ok.wf
     ·cases hst:m.st with
      |nil=>exact zb5
      |cons a b=>exact (hm.st a (by rw[hst];simp)).wf
    ·cases h
open Kp169 (E Es Bytes St Known Kind kindE kindEs more held shift alike placesOf renumber closed found Item usable rightItem distinct tooMuch wrong)
noncomputable def zd3:Item->Bool
 |.unit _=>true
 |_=>false
noncomputable def isFn:Item->Bool
 |.fn _ _ _=>true
 |_=>false
noncomputable def params:Item->List Bytes
 |.fn _ ps _=>ps
 |_=>[]
noncomputable def zbz:Item->List Sx
 |.unit _=>[]
 |.let_ _ e=>za5 e
 |.fn _ _ e=>za5 e
noncomputable def nu(u:Nat)(i:Item):Nat:=if zd3 i then u+1 else u
noncomputable def zb8:Nat->Nat->List Item->Option Nat
 |_,_,[]=>none
 |k,u,i::l=>if 64<=k\/8<nu u i\/6<(params i).length then some k else zb8 (k+1) (nu u i) l
noncomputable def units(l:List Item):Nat:=(l.filter zd3).length
noncomputable def tooP(l:List Item)(k:Nat):Bool:=decide (Kp169.ITEMS<=k) || (match l[k]? with
 |some (.fn _ ps _)=>decide (Kp169.PARAMS<ps.length)
 |some (.unit _)=>decide (Kp169.UNITS<((l.take (k+1)).filter λi=>match i with
  |.unit _=>true
  |_=>false).length)
 |_=>false)
theorem zt0(l:List Item):tooMuch l=(qfk l.length).find? (tooP l):=rfl
theorem zuv:(λi:Item=>match i with|.unit _=>true|_=>false)=zd3:=by
 funext i;cases i <;> rfl
theorem ztv(pre:List Item)(i:Item):units (pre++[i])=nu (units pre) i:=by
 unfold units nu;rw[qii,qee]
 cases h:zd3 i <;> simp[h]
theorem zk1:∀(rest pre:List Item),units pre<=8->((qjf pre.length rest.length).find? (tooP (pre++rest)))=zb8 pre.length (units pre) rest
 |[],pre,_=>rfl
 |i::rest,pre,hu=>by
  simp only[qeg,qiw,qfu]
  have eu:=ztv pre i
  have ei:(pre++i::rest)[pre.length]?=some i:=by simp
  have et:(pre++i::rest).take (pre.length+1)=pre++[i]:=by
   rw[qiv,qe5 (by lia)];simp
  have ep:tooP (pre++i::rest) pre.length=decide (64<=pre.length\/8<nu (units pre) i\/6<(params i).length):=by
   unfold tooP
   rw[ei,et,zuv]
   have e2:((pre++[i]).filter zd3).length=nu (units pre) i:=eu
   rw[e2]
   cases i with
   |unit x=>
    show (decide (64<=pre.length) || decide (8<nu (units pre) (.unit x)))=_
    rw[<-Bool.decide_or]
    simp[params]
   |let_ x e=>
    have:nu (units pre) (.let_ x e)=units pre:=rfl
    show (decide (64<=pre.length) || false)=_
    rw[this,qit]
    exact decide_eq_decide.mpr ⟨λh=>.inl h,λh=>by rcases h with h|h|h;exact h;lia;simp[params]at h⟩
   |fn x ps e=>
    have:nu (units pre) (.fn x ps e)=units pre:=rfl
    show (decide (64<=pre.length) || decide (6<ps.length))=_
    rw[this,<-Bool.decide_or]
    exact decide_eq_decide.mpr ⟨λh=>by rcases h with h|h;exact .inl h;exact .inr (.inr h),λh=>by rcases h with h|h|h;exact .inl h;lia;exact .inr h⟩
  rw[ep,zb8]
  by_cases hc:64<=pre.length\/8<nu (units pre) i\/6<(params i).length
  ·rw[decide_eq_true hc,if_pos hc]
  ·rw[decide_eq_false hc,if_neg hc]
   have:=zk1 rest (pre++[i]) (by rw[eu];lia)
   rw[qfc,eu,qee]at this
   exact this
theorem zlr(l:List Item):tooMuch l=zb8 0 0 l:=by
 rw[zt0,qh9]
 exact zk1 l [] (by simp[units])
theorem zk2{k u:Nat}{i:Item}{l:List Item}(h:zb8 k u (i::l)=none):k<64/\nu u i<=8/\(params i).length<=6/\zb8 (k+1) (nu u i) l=none:=by
 rw[zb8]at h
 by_cases hc:64<=k\/8<nu u i\/6<(params i).length
 ·rw[if_pos hc]at h;cases h
 ·rw[if_neg hc]at h;exact⟨by lia,by lia,by lia,h⟩
theorem zep:∀(l:List Item)(k u:Nat),zb8 k u l=none->(∀i∈l,(params i).length<=6)/\(l=[]\/k+l.length<=64)
 |[],_,_,_=>⟨λi hi=>by simp at hi,.inl rfl⟩
 |i::l,k,u,h=>by
  obtain⟨h1,h2,h3,h4⟩:=zk2 h
  obtain⟨g1,g2⟩:=zep l (k+1) _ h4
  refine⟨λj hj=>?_,.inr ?_⟩
  ·rcases qer.mp hj with rfl|hj
   ·exact h3
   ·exact g1 j hj
  ·rcases g2 with rfl|g2
   ·simp;lia
   ·simp only[qeg];lia
noncomputable def zcd:List Item->List Item->Option Nat
 |_,[]=>none
 |before,i::l=>if rightItem before i then zcd (before++[i]) l else some before.length
theorem zka:∀(rest pre:List Item),((qjf pre.length rest.length).find? λk=>match (pre++rest)[k]? with
  |some i=>!rightItem ((pre++rest).take k) i
  |none=>false)=zcd pre rest
 |[],pre=>rfl
 |i::rest,pre=>by
  simp only[qeg,qiw,qfu]
  have ei:(pre++i::rest)[pre.length]?=some i:=by simp
  have et:(pre++i::rest).take pre.length=pre:=by simp
  rw[ei,et,zcd]
  cases h:rightItem pre i with
  |false=>simp[h]
  |true=>
   simp only[h,qjm,if_true]
   have:=zka rest (pre++[i])
   rw[qfc,qee]at this
   exact this
theorem zoa(l:List Item):wrong l=zcd [] l:=by
 unfold wrong
 rw[qh9]
 exact zka l []
noncomputable def zn7(before:List Bytes):List Bytes->List Bytes->Bool
 |_,[]=>true
 |seen,x::r=>if seen.contains x || before.contains x then false else zn7 before (seen++[x]) r
theorem zq6(before:List Bytes):∀(ps seen:List Bytes),zn7 before seen ps=(distinct ps && ps.all (λp=>!before.contains p) && ps.all (λp=>!seen.contains p))
 |[],seen=>by simp[zn7,distinct]
 |x::r,seen=>by
  rw[zn7,zq6 before r]
  rw[qfy]
  cases h1:seen.contains x <;> cases h2:before.contains x <;> simp_all [distinct] <;> try rfl
  constructor
  ·rintro ⟨⟨a,b⟩,c⟩
   refine⟨⟨⟨?_,a⟩,b⟩,λy hy=>(c y hy).1⟩
   intro hx
   exact (c x hx).2 rfl
  ·rintro ⟨⟨⟨a,b⟩,c⟩,d⟩
   exact⟨⟨b,c⟩,λy hy=>⟨d y hy,λe=>a (e▸hy)⟩⟩
noncomputable def zcr(before:List Item)(ps:List Bytes):Sx->Bool
 |.name x=>ps.contains x || (match before.find? λi=>i.name == x with
  |some i=>!isFn i
  |none=>false)
 |.call f n=>match before.find? λi=>i.name == f with
  |some i=>isFn i && (params i).length == n
  |none=>false
 |_=>true
noncomputable def zlq(before:List Item):Prop:=(before.map Item.name).Nodup
theorem zti{before:List Item}(hd:zlq before)(x:Bytes)(P:Item->Bool):(before.any λi=>i.name == x && P i)=(match before.find? λi=>i.name == x with|some i=>P i|none=>false):=by
 induction before with
 |nil=>rfl
 |cons i l ih=>
  have hd':i.name ∉ l.map Item.name/\zlq l:=qgz.mp hd
  rw[qg2,qfu]
  cases h:(i.name == x) with
  |true=>
   simp only[Bool.true_and]
   have:(l.any λi=>i.name == x && P i)=false:=by
    rw[List.any_eq_false]
    intro j hj
    have hx:i.name=x:=by simpa using h
    have:j.name≠x:=λe=>hd'.1 (qe1.mpr ⟨j,hj,by rw[e,hx]⟩)
    simp[this]
   rw[this,qit]
  |false=>
   simp only[Bool.false_and,qjn]
   exact ih hd'.2
theorem zjt{before:List Item}{ps:List Bytes}(hd:zlq before)(x:Bytes):usable before ps (x,none)=zcr before ps (.name x):=by
 unfold usable zcr
 simp only
 rw[<-zti hd x λi=>!isFn i]
 congr 1
 congr 1
 funext i
 cases i <;> simp[Item.name,isFn]
theorem zju{before:List Item}{ps:List Bytes}(hd:zlq before)(f:Bytes)(n:Nat):usable before ps (f,some n)=zcr before ps (.call f n):=by
 unfold usable zcr
 simp only
 rw[<-zti hd f λi=>isFn i && (params i).length == n]
 congr 1
 funext i
 cases i <;> simp[Item.name,isFn,params]
mutual
theorem zbw{before:List Item}{ps:List Bytes}(hd:zlq before):∀e:E,e.uses.all (usable before ps)=(za5 e).all (zcr before ps)
 |.num v t=>by by_cases h:v=0 <;> simp[E.uses,za5,h,zcr]
 |.var x=>by simp only[E.uses,za5,qg1,qjp,zjt hd]
 |.call f l=>by
  simp only[E.uses,za5,qg1,qf3,qjp,zju hd,zmb hd l,qis]
  exact Bool.and_comm _ _
 |.neg e=>by simp only[E.uses,za5];exact zbw hd e
 |.bin op a b=>by
  simp only[E.uses,za5,qf3,zbw hd a,zbw hd b,qg1,qjp]
  have:zcr before ps (if op=42 then .times else if op=47 then .over else .alike)=true:=by split <;> (try split) <;> rfl
  rw[this];simp
 |.pow e k=>by simp[E.uses,za5,qf3,zbw hd e,zcr]
 |.ite a b x y=>by simp[E.uses,za5,qf3,zbw hd a,zbw hd b,zbw hd x,zbw hd y,zcr,Bool.and_assoc]
theorem zmb{before:List Item}{ps:List Bytes}(hd:zlq before):∀l:Es,l.uses.all (usable before ps)=(zds l).all (zcr before ps)
 |.nil=>rfl
 |.cons e l=>by simp only[Es.uses,zds,qf3,zbw hd e,zmb hd l]
end
noncomputable def ziy(before:List Item)(i:Item):Bool:=(!(before.map Item.name).contains i.name && zn7 (before.map Item.name) [] (params i)) && (zbz i).all (zcr before (params i))
theorem zdz{before:List Item}(hd:zlq before)(i:Item):rightItem before i=ziy before i:=by
 unfold rightItem ziy
 cases i with
 |unit x=>simp[params,zn7,zbz]
 |let_ x e=>simp[params,zn7,zbz,zbw hd e]
 |fn x ps e=>
  simp only[params,zbz,zq6,zbw hd e]
  have:(ps.all λp=>!([]:List Bytes).contains p)=true:=qeo.mpr λ_ _=>rfl
  rw[this]
  simp[Bool.and_assoc]
theorem zgk{before:List Item}{i:Item}(hd:zlq before)(h:ziy before i=true):zlq (before++[i]):=by
 unfold ziy at h
 simp only[qev,qin]at h
 have hn:i.name ∉ before.map Item.name:=λz=>by
  have:(before.map Item.name).contains i.name=true:=by simpa using z
  rw[this]at h;exact absurd h.1.1 (by simp)
 unfold zlq
 rw[qej]
 show (before.map Item.name++[i.name]).Nodup
 rw[qim]
 exact⟨hd,by simp,λx hx y hy=>by rw[qew.mp hy];exact λe=>hn (e▸hx)⟩
open Kp169 (E Es Bytes St Known Kind kindE kindEs more held shift alike placesOf renumber closed found Item usable rightItem distinct tooMuch wrong kinds)
inductive KO:List Item->Known->Prop where
 |nil:KO [] []
 |cons {i:Item} {q:Kind} {b:List Item} {k:Known}:KOk q->q.of.length=(params i).length->KO b k->KO (i::b) ((i.name,q)::k)
theorem KO.snoc{b:List Item}{k:Known}(h:KO b k){i:Item}{q:Kind}(h1:KOk q)(h2:q.of.length=(params i).length):KO (b++[i]) (k++[(i.name,q)]):=by
 induction h with
 |nil=>exact .cons h1 h2 .nil
 |cons a c _ ih=>exact .cons a c ih
theorem KO.all{b:List Item}{k:Known}(h:KO b k):∀q∈k,KOk q.2:=by
 induction h with
 |nil=>intro q hq;simp at hq
 |cons a c _ ih=>
  intro q hq
  rcases qer.mp hq with rfl|hq
  ·exact a
  ·exact ih q hq
theorem KO.len{b:List Item}{k:Known}(h:KO b k):b.length=k.length:=by
 induction h with
 |nil=>rfl
 |cons _ _ _ ih=>simp[ih]
theorem KO.find{b:List Item}{k:Known}(h:KO b k)(x:Bytes):match b.find? λi=>i.name == x with
  |some i=>∃q,(k.find? λq=>q.1 == x)=some (x,q)/\q.of.length=(params i).length
  |none=>(k.find? λq=>q.1 == x)=none:=by
 induction h with
 |nil=>rfl
 | @cons i q b k a c _ ih=>
  rw[qfu,qfu]
  cases hx:(i.name == x) with
  |true=>
   have:i.name=x:=by simpa using hx
   subst this
   exact⟨q,rfl,c⟩
  |false=>exact ih
theorem zjc{before:List Item}{known:Known}{ps:List Bytes}(hd:zlq before)(hk:KO before known){u:Bytes×Option Nat}(h:usable before ps u=true):zqb known ps u:=by
 obtain⟨x,o⟩:=u
 cases o with
 |none=>
  rw[zjt hd]at h
  unfold zcr at h
  unfold zqb
  simp only
  rw[Bool.or_eq_true]at h
  rcases h with h|h
  ·left
   have hm:x∈ps:=by simpa using h
   cases e:ps.idxOf? x with
   |some k=>rfl
   |none=>
    have:=List.findIdx?_eq_none_iff.mp e x hm
    simp at this
  ·right
   have hf:=hk.find x
   cases e:before.find? λi=>i.name == x with
   |none=>rw[e]at h;simp at h
   |some i=>
    rw[e]at hf
    obtain⟨q,hq,_⟩:=hf
    rw[hq];rfl
 |some n=>
  rw[zju hd]at h
  simp only[zcr]at h
  unfold zqb
  simp only
  have hf:=hk.find x
  cases e:before.find? λi=>i.name == x with
  |none=>rw[e]at h;simp at h
  |some i=>
   rw[e]at hf h
   obtain⟨q,hq,hl⟩:=hf
   simp only[qev,beq_iff_eq]at h
   exact⟨_,hq,hl.trans h.2⟩
noncomputable def zdm(known:Known)(u:Nat)(i:Item):Int ⊕ Kind:=if zd3 i then .inr ⟨0,0,[],ofMark u⟩ else zhp known (params i) (zbz i)
noncomputable def zdo:Nat->Known->Nat->List Item->(Int×Nat) ⊕ Known
 |_,known,_,[]=>.inr known
 |k,known,u,i::l=>match zdm known u i with
  |.inl v=>.inl (v,k)
  |.inr q=>zdo (k+1) (known++[(i.name,q)]) (nu u i) l
theorem qax{known:Known}{ps:List Bytes}{l:List Sx}{q:Kind}(h:zhp known ps l=.inr q):q.of.length=ps.length:=by
 unfold zhp at h
 split at h
 ·cases h
 ·split at h
  ·cases h
  ·split at h
   ·cases h
   ·split at h
    ·cases h;simp[closed]
    ·cases h
theorem zmu{known:Known}{u:Nat}{i:Item}{q:Kind}(hk:∀q∈known,KOk q.2)(hp:(params i).length<=6)(h:zdm known u i=.inr q):KOk q/\q.of.length=(params i).length:=by
 unfold zdm at h
 split at h
 ·next hu=>
  cases h
  cases i with
  |unit x=>exact⟨⟨zvo u,zxq _ _,zok u,λx hx=>by simp at hx,λx hx=>by simp at hx,qf4 _⟩,rfl⟩
  |let_ x e=>simp[zd3]at hu
  |fn x ps e=>simp[zd3]at hu
 ·exact⟨qdv hk (by lia) h,qax h⟩
noncomputable def zOf(known:Known)(u:Nat):Item->Int ⊕ Kind
 |.unit _=>.inr (closed [] (ofMark u))
 |.let_ _ e=>found known [] e
 |.fn _ ps e=>found known ps e
theorem zut(k:Nat)(known:Known)(u:Nat)(i:Item)(l:List Item):kinds k known u (i::l)=(match zOf known u i with
  |.inl v=>.inl (v,k)
  |.inr q=>kinds (k+1) (known++[(i.name,q)]) (nu u i) l):=by cases i <;> rfl
theorem zi1:∀(l before:List Item)(known:Known)(k u:Nat),zlq before->KO before known->zcd before l=none->(∀i∈l,(params i).length<=6)->kinds k known u l=zdo k known u l
 |[],_,_,_,_,_,_,_,_=>rfl
 |i::l,before,known,k,u,hd,hk,hr,hp=>by
  rw[zcd]at hr
  cases hri:rightItem before i with
  |false=>rw[hri]at hr;simp at hr
  |true=>
   rw[hri]at hr
   simp only[if_true]at hr
   have hpi:=hp i (by simp)
   have e1:zOf known u i=zdm known u i:=by
    unfold zdm zOf
    cases i with
    |unit x=>simp[zd3,zrr]
    |let_ x e=>
     simp only[zd3,qe0,if_false,params,zbz]
     refine zth hk.all (by simp) λw hw=>zjc hd hk ?_
     unfold rightItem at hri
     simp only[qev,qeo]at hri
     exact hri.2 w hw
    |fn x ps e=>
     simp only[zd3,qe0,if_false,params,zbz]
     refine zth hk.all (by simp only[params]at hpi;lia) λw hw=>zjc hd hk ?_
     unfold rightItem at hri
     simp only[qev,qeo]at hri
     exact hri.2.2 w hw
   rw[zut,e1,zdo]
   cases hq:zdm known u i with
   |inl v=>rfl
   |inr q=>
    simp only
    obtain⟨h1,h2⟩:=zmu hk.all hpi hq
    have hdist:=zgk hd ((zdz hd i).symm.trans hri)
    exact zi1 l (before++[i]) _ (k+1) _ hdist (hk.snoc h1 h2) hr λj hj=>hp j (by simp[hj])
noncomputable def zjz(l:List Item):(Int×Nat) ⊕ Known:=match zb8 0 0 l with
 |some k=>.inl (-28,k)
 |none=>match zcd [] l with
  |some k=>.inl (-22,k)
  |none=>zdo 0 [] 0 l
theorem zm0:∀(l:List Item)(known:Known)(k u:Nat)(q:Known),zdo k known u l=.inr q->q.length=known.length+l.length
 |[],known,k,u,q,h=>by cases h;simp
 |i::l,known,k,u,q,h=>by
  rw[zdo]at h
  split at h
  ·cases h
  ·have:=zm0 l _ _ _ q h
   simp at this ⊢;lia
theorem zwg(t:Bytes):Kp169.read t=match Kp169.tokens t with
  |none=>.inl (-71,0)
  |some ts=>if 2048<ts.length then .inl (-28,0) else match Kp169.sheetOf ts with
   |none=>.inl (-71,0)
   |some l=>match zjz l with
    |.inl x=>.inl x
    |.inr q=>.inr (l,q):=by
 unfold Kp169.read
 cases Kp169.tokens t with
 |none=>rfl
 |some ts=>
  simp only
  split
  ·rfl
  ·cases Kp169.sheetOf ts with
   |none=>rfl
   |some l=>
    simp only
    unfold zjz
    rw[zlr,zoa]
    cases hc:zb8 0 0 l with
    |some k=>rfl
    |none=>
     simp only
     cases hr:zcd [] l with
     |some k=>rfl
     |none=>
      simp only
      rw[zi1 l [] [] 0 0 qij .nil hr (zep l 0 0 hc).1]
      cases zdo 0 [] 0 l <;> rfl
open Kp169 (Bytes Tok small digit inName words signs numberAt digits lex tokens)
noncomputable def zb4(c:Nat):Bool:=c == 32 || c == 10
noncomputable def zkt(b:Bytes):Option (List Tok):=lex (b.length+1) b
noncomputable def zjp(w:Bytes):Tok:=⟨if words.contains w then 2 else 0,w⟩
noncomputable def za8:Bytes->Option Tok
 |[]=>none
 |c::r=>if small c then (if 16<((c::r).takeWhile inName).length then none else some (zjp ((c::r).takeWhile inName)))
  else if digit c then (match numberAt (c::r) with
   |none=>none
   |some (w,_)=>if 15<digits w then none else some ⟨1,w⟩)
  else if signs.contains c then some ⟨2,[c]⟩
  else none
theorem ze4{c:Nat}(h:small c=true):inName c=true:=by unfold inName;rw[h];rfl
theorem blank_iff{c:Nat}:(c=32\/c=10)↔zb4 c=true:=by simp[zb4]
theorem za4{α:Type}(p:α->Bool):∀l:List α,(l.takeWhile p).length<=l.length
 |[]=>by simp
 |x::l=>by
  rw[qfm];split
  ·have:=za4 p l;simp;lia
  ·simp
theorem zbi{α:Type}(p:α->Bool):∀l:List α,l.take (l.takeWhile p).length=l.takeWhile p
 |[]=>rfl
 |x::l=>by
  rw[qfm];split
  ·simp[zbi p l]
  ·simp
theorem zhk{b w q:Bytes}(h:numberAt b=some (w,q)):w++q=b:=by
 unfold numberAt at h
 simp only at h
 have hd:b.takeWhile digit++b.drop (b.takeWhile digit).length=b:=by
  conv=>lhs;lhs;rw[<-zbi digit b]
  exact qf8 _ _
 split at h
 ·next q' hq=>
  split at h
  ·cases h
  ·simp only[qen.injEq,Prod.mk.injEq]at h
   obtain⟨rfl,rfl⟩:=h
   conv=>rhs;rw[<-hd,hq]
   have:q'.takeWhile digit++q'.drop (q'.takeWhile digit).length=q':=by
    conv=>lhs;lhs;rw[<-zbi digit q']
    exact qf8 _ _
   simp[this]
 ·simp only[qen.injEq,Prod.mk.injEq]at h
  obtain⟨rfl,rfl⟩:=h
  exact hd
theorem zpa{c:Nat}{r w q:Bytes}(hc:digit c=true)(h:numberAt (c::r)=some (w,q)):1<=w.length:=by
 unfold numberAt at h
 simp only[qfm,hc,if_true]at h
 split at h
 ·split at h
  ·cases h
  ·simp only[qen.injEq,Prod.mk.injEq]at h
   rw[<-h.1];simp
 ·simp only[qen.injEq,Prod.mk.injEq]at h
  rw[<-h.1];simp
theorem zcz{b:Bytes}{t:Tok}(h:za8 b=some t):1<=t.text.length/\t.text=b.take t.text.length/\t.text.length<=b.length:=by
 cases b with
 |nil=>simp[za8]at h
 |cons c r=>
  simp only[za8]at h
  split at h
  ·next hs=>
   split at h
   ·cases h
   ·simp only[qen.injEq]at h
    subst h
    refine⟨?_,(zbi inName _).symm,za4 _ _⟩
    show 1<=((c::r).takeWhile inName).length
    rw[qfm,ze4 hs];simp
  ·split at h
   ·next hd=>
    cases hn:numberAt (c::r) with
    |none=>rw[hn]at h;cases h
    |some p=>
     obtain⟨w,q⟩:=p
     rw[hn]at h
     simp only at h
     split at h
     ·cases h
     ·cases h
      have:=zhk hn
      refine⟨zpa hd hn,?_,?_⟩
      ·rw[<-this];simp
      ·rw[<-this];simp
   ·split at h
    ·cases h;simp
    ·cases h
theorem zhm{f c:Nat}{r:Bytes}(hb:zb4 c=false):lex (f+1) (c::r)=match za8 (c::r) with
  |none=>none
  |some t=>(lex f ((c::r).drop t.text.length)).map λl=>t::l:=by
 have hnb:¬(c=32\/c=10):=λz=>by rw[blank_iff.mp z]at hb;cases hb
 rw[lex,if_neg hnb]
 unfold za8
 by_cases hs:small c=true
 ·simp only[hs,if_true,qfm,ze4 hs,qeg]
  by_cases hl:16<(List.takeWhile inName r).length+1
  ·rw[if_pos hl,if_pos hl]
  ·rw[if_neg hl,if_neg hl]
   simp[zjp]
 ·have hs':small c=false:=by simpa using hs
  simp only[hs',qe0,if_false]
  by_cases hd:digit c=true
  ·simp only[hd,if_true]
   cases hn:numberAt (c::r) with
   |none=>rfl
   |some p=>
    obtain⟨w,q⟩:=p
    simp only
    by_cases hl:15<digits w
    ·rw[if_pos hl,if_pos hl]
    ·rw[if_neg hl,if_neg hl]
     have:=zhk hn
     simp only
     rw[<-this];simp
  ·have hd':digit c=false:=by simpa using hd
   simp only[hd',qe0,if_false]
   by_cases hsg:signs.contains c=true
   ·simp only[hsg,if_true];simp
   ·simp only[hsg,if_false];simp
theorem znr:∀(n:Nat)(b:Bytes)(f g:Nat),b.length<=n->b.length<f->b.length<g->lex f b=lex g b
 |n,[],f+1,g+1,_,_,_=>rfl
 |0,_::_,_,_,h,_,_=>by simp at h
 |n+1,c::r,f+1,g+1,h,hf,hg=>by
  simp only[qeg]at h hf hg
  by_cases hb:zb4 c=true
  ·rw[lex,lex,if_pos (blank_iff.mpr hb),if_pos (blank_iff.mpr hb)]
   exact znr n r f g (by lia) (by lia) (by lia)
  ·have hb':zb4 c=false:=by simpa using hb
   rw[zhm hb',zhm hb']
   cases ht:za8 (c::r) with
   |none=>rfl
   |some t=>
    obtain⟨h1,_,_⟩:=zcz ht
    simp only
    have hl:((c::r).drop t.text.length).length<=r.length:=by simp;lia
    rw[znr n _ f g (by lia) (by lia) (by lia)]
theorem zs9:zkt []=some []:=rfl
theorem zmz{c:Nat}{r:Bytes}(hb:zb4 c=true):zkt (c::r)=zkt r:=by
 unfold zkt
 rw[lex,if_pos (blank_iff.mpr hb)]
 rfl
theorem zd6:∀b:Bytes,zkt (b.dropWhile zb4)=zkt b
 |[]=>rfl
 |c::r=>by
  rw[qhl]
  split
  ·next h=>rw[zmz h];exact zd6 r
  ·rfl
theorem zpe{c:Nat}{r:Bytes}(hb:zb4 c=false):zkt (c::r)=match za8 (c::r) with
  |none=>none
  |some t=>(zkt ((c::r).drop t.text.length)).map λl=>t::l:=by
 unfold zkt
 rw[zhm hb]
 cases ht:za8 (c::r) with
 |none=>rfl
 |some t=>
  obtain⟨h1,_,_⟩:=zcz ht
  simp only
  have hl:((c::r).drop t.text.length).length<=r.length:=by simp;lia
  rw[znr r.length _ (c::r).length (((c::r).drop t.text.length).length+1) (by lia) (by simp;lia) (by lia)]
noncomputable def zlp(c:Nat):Bool:=inName c || signs.contains c || zb4 c || c == 46
noncomputable def zcq(c:Nat):Nat:=if zlp c then c else 63
theorem zzt:signs=[40,41,44,59,61,43,45,42,47,94,60]:=by decide
theorem zzc:words=[[117,110,105,116],[108,101,116],[102,110],[105,102],[116,104,101,110],[101,108,115,101]]:=by decide
theorem insane{c:Nat}(h:zlp c=false):inName c=false/\signs.contains c=false/\zb4 c=false/\c≠46:=by
 unfold zlp at h
 simp only[Bool.or_eq_false_iff,beq_eq_false_iff_ne]at h
 exact⟨h.1.1.1,h.1.1.2,h.1.2,h.2⟩
theorem zjm{c:Nat}(h:zlp c=true):zcq c=c:=by unfold zcq;rw[if_pos h]
theorem ztp{c:Nat}(h:zlp c=false):zcq c=63:=by unfold zcq;rw[if_neg (by simp[h])]
theorem zeh(p:Nat->Bool)(h63:p 63=false)(hp:∀c,p c=true->zlp c=true)(c:Nat):p (zcq c)=p c:=by
 cases h:zlp c with
 |true=>rw[zjm h]
 |false=>
  rw[ztp h,h63]
  cases hc:p c with
  |false=>rfl
  |true=>rw[hp c hc]at h;cases h
theorem zcj(p:Nat->Bool)(h63:p 63=false)(hp:∀c,p c=true->zlp c=true):∀b:Bytes,(b.map zcq).takeWhile p=b.takeWhile p
 |[]=>rfl
 |c::r=>by
  rw[qfh,qfm,qfm,zeh p h63 hp]
  split
  ·next h=>rw[zjm (hp c h),zcj p h63 hp r]
  ·rfl
theorem zih{c:Nat}(h:digit c=true):zlp c=true:=by unfold zlp inName;simp[h]
theorem zk0{c:Nat}(h:inName c=true):zlp c=true:=by unfold zlp;simp[h]
theorem clean_46{c:Nat}:zcq c=46↔c=46:=by
 cases h:zlp c with
 |true=>rw[zjm h]
 |false=>rw[ztp h];exact⟨λz=>by lia,λz=>absurd z (insane h).2.2.2⟩
theorem zlv(b:Bytes):numberAt (b.map zcq)=(numberAt b).map λp=>(p.1,p.2.map zcq):=by
 unfold numberAt
 simp only
 rw[zcj digit (by decide) λc=>zih]
 rw[<-qhs]
 cases h:b.drop (b.takeWhile digit).length with
 |nil=>simp
 |cons c q=>
  rw[qfh]
  by_cases hc:c=46
  ·subst hc
   have e:zcq 46=46:=by decide
   rw[e]
   simp only
   rw[zcj digit (by decide) λc=>zih]
   split
   ·rfl
   ·simp
  ·have hc':zcq c≠46:=λz=>hc (clean_46.mp z)
   split
   ·next heq=>injection heq with h1 h2;exact absurd h1 hc'
   ·split
    ·next heq=>injection heq with h1 h2;exact absurd h1 hc
    ·simp
theorem zm9(b:Bytes):za8 (b.map zcq)=za8 b:=by
 cases b with
 |nil=>rfl
 |cons c r=>
  have e1:small (zcq c)=small c:=zeh small (by decide) (λc h=>zk0 (ze4 h)) c
  have e2:digit (zcq c)=digit c:=zeh digit (by decide) (λc=>zih) c
  have e3:signs.contains (zcq c)=signs.contains c:=zeh (λc=>signs.contains c) (by decide) (λc h=>by unfold zlp;simp only[h];simp) c
  have e4:=zcj inName (by decide) (λc=>zk0) (c::r)
  have e5:=zlv (c::r)
  rw[qfh]at e4 e5 ⊢
  simp only[za8]
  rw[e1,e2,e3,e4,e5]
  split
  ·rfl
  ·split
   ·cases numberAt (c::r) <;> rfl
   ·split
    ·next h=>
     have:zlp c=true:=by unfold zlp;simp only[h];simp
     rw[zjm this]
    ·rfl
theorem zkr:∀(f:Nat)(b:Bytes),lex f (b.map zcq)=lex f b
 |0,_=>rfl
 |f+1,[]=>rfl
 |f+1,c::r=>by
  have eb:zb4 (zcq c)=zb4 c:=zeh zb4 (by decide) (λc h=>by unfold zlp;simp[h]) c
  by_cases hb:zb4 c=true
  ·rw[qfh,lex,lex,if_pos (blank_iff.mpr (eb.trans hb)),if_pos (blank_iff.mpr hb)]
   exact zkr f r
  ·have hb':zb4 c=false:=by simpa using hb
   have e:=zm9 (c::r)
   rw[qfh]at e ⊢
   rw[zhm (eb.trans hb'),zhm hb',e]
   cases za8 (c::r) with
   |none=>rfl
   |some t=>
    simp only
    rw[<-qfh,<-qhs,zkr f]
theorem zit(b:Bytes):tokens b=zkt (b.map zcq):=by
 unfold tokens zkt
 rw[qec,zkr]
noncomputable def zim(t:Tok):Prop:=t.kind=0/\words.contains t.text=false/\1<=t.text.length\/t.kind=1/\(∃c∈t.text.head?,digit c=true)\/t.kind=2/\(words.contains t.text=true\/∃c,signs.contains c=true/\t.text=[c])
theorem zt2{b:Bytes}{t:Tok}(h:za8 b=some t):zim t:=by
 have ht:=zcz h
 cases b with
 |nil=>simp[za8]at h
 |cons c r=>
  simp only[za8]at h
  split at h
  ·split at h
   ·cases h
   ·simp only[qen.injEq]at h
    subst h
    unfold zjp zim
    cases hw:words.contains ((c::r).takeWhile inName) with
    |true=>right;right;exact⟨rfl,.inl rfl⟩
    |false=>left;exact⟨rfl,rfl,ht.1⟩
  ·split at h
   ·next hd=>
    cases hn:numberAt (c::r) with
    |none=>rw[hn]at h;cases h
    |some p=>
     obtain⟨w,q⟩:=p
     rw[hn]at h
     simp only at h
     split at h
     ·cases h
     ·cases h
      right;left
      refine⟨rfl,c,?_,hd⟩
      have h1:=ht.1
      have h2:=ht.2.1
      simp only at h1 h2
      rw[h2]
      cases hw:w.length with
      |zero=>lia
      |succ n=>simp
   ·split at h
    ·next hs=>cases h;right;right;exact⟨rfl,.inr ⟨c,hs,rfl⟩⟩
    ·cases h
open Kp169 (Bytes Tok E Es Item small digit inName words signs numberAt digits isTok eat nameAt opOf power number bytesOf pExpr pSum pSumRest pTerm pTermRest pPower pFactor pArgs pMore pNames pItem pItems sheetOf DEEP)
theorem zef{w:String}{ts:List Tok}(h:isTok w ts=true):(ts.drop 1).length+1=ts.length:=by
 cases ts with
 |nil=>simp[isTok]at h
 |cons t r=>simp
theorem zao{w:String}{ts r:List Tok}(h:eat w ts=some r):r.length+1=ts.length:=by
 unfold eat at h
 split at h
 ·next hi=>cases h;exact zef hi
 ·cases h
theorem zhh{ts r:List Tok}{k:Nat}(h:power ts=some (k,r)):r.length+1=ts.length:=by
 cases ts with
 |nil=>simp[power]at h
 |cons t q=>
  simp only[power]at h
  split at h
  ·simp only[qen.injEq,Prod.mk.injEq]at h
   rw[<-h.2];simp
  ·cases h
theorem zjf{l:List (String×Nat)}{ts:List Tok}{o:Nat}(h:opOf l ts=some o):(ts.drop 1).length+1=ts.length:=by
 unfold opOf at h
 cases hf:l.find? λx=>isTok x.1 ts with
 |none=>rw[hf]at h;cases h
 |some x=>
  have h2:isTok x.1 ts=true:=by have:=List.find?_some hf;simpa using this
  exact zef h2
structure Shr(f:Nat):Prop where
 expr:∀d ts e r,pExpr f d ts=some (e,r)->r.length<ts.length
 sum:∀d ts e r,pSum f d ts=some (e,r)->r.length<ts.length
 sumR:∀d a ts e r,pSumRest f d a ts=some (e,r)->r.length<=ts.length
 term:∀d ts e r,pTerm f d ts=some (e,r)->r.length<ts.length
 termR:∀d a ts e r,pTermRest f d a ts=some (e,r)->r.length<=ts.length
 power:∀d ts e r,pPower f d ts=some (e,r)->r.length<ts.length
 factor:∀d ts e r,pFactor f d ts=some (e,r)->r.length<ts.length
 args:∀d ts e r,pArgs f d ts=some (e,r)->r.length<ts.length
 more:∀d ts e r,pMore f d ts=some (e,r)->r.length<ts.length
theorem shr:∀f,Shr f
 |0=>⟨λ_ _ _ _ h=>by simp[pExpr]at h,λ_ _ _ _ h=>by simp[pSum]at h,λ_ _ _ _ _ h=>by simp[pSumRest]at h,λ_ _ _ _ h=>by simp[pTerm]at h,λ_ _ _ _ _ h=>by simp[pTermRest]at h,
   λ_ _ _ _ h=>by simp[pPower]at h,λ_ _ _ _ h=>by simp[pFactor]at h,λ_ _ _ _ h=>by simp[pArgs]at h,λ_ _ _ _ h=>by simp[pMore]at h⟩
 |f+1=>by
  have ih:=shr f
  refine⟨λd ts e r h=>?_,λd ts e r h=>?_,λd a ts e r h=>?_,λd ts e r h=>?_,λd a ts e r h=>?_,λd ts e r h=>?_,λd ts e r h=>?_,λd ts e r h=>?_,λd ts e r h=>?_⟩
  ·simp only[pExpr]at h
   split at h
   ·cases h
   ·split at h
    ·next hif=>
     have h0:=zef hif
     simp only[bind,qel,pure,qen.injEq,Prod.mk.injEq]at h
     obtain⟨a,ha,q,hq,b,hb,t,ht,x,hx,u,hu,y,hy,_,rfl⟩:=h
     have:=ih.sum _ _ _ _ ha;have:=zao hq;have:=ih.sum _ _ _ _ hb;have:=zao ht;have:=ih.expr _ _ _ _ hx;have:=zao hu;have:=ih.expr _ _ _ _ hy
     lia
    ·exact ih.sum _ _ _ _ h
  ·simp only[pSum,bind,qel]at h
   obtain⟨a,ha,h⟩:=h
   have:=ih.term _ _ _ _ ha;have:=ih.sumR _ _ _ _ _ h
   lia
  ·simp only[pSumRest]at h
   split at h
   ·next op ho=>
    simp only[bind,qel]at h
    obtain⟨b,hb,h⟩:=h
    have:=zjf ho;have:=ih.term _ _ _ _ hb;have:=ih.sumR _ _ _ _ _ h
    lia
   ·simp only[qen.injEq,Prod.mk.injEq]at h;rw[<-h.2];exact qek _
  ·simp only[pTerm,bind,qel]at h
   obtain⟨a,ha,h⟩:=h
   have:=ih.power _ _ _ _ ha;have:=ih.termR _ _ _ _ _ h
   lia
  ·simp only[pTermRest]at h
   split at h
   ·next op ho=>
    simp only[bind,qel]at h
    obtain⟨b,hb,h⟩:=h
    have:=zjf ho;have:=ih.power _ _ _ _ hb;have:=ih.termR _ _ _ _ _ h
    lia
   ·simp only[qen.injEq,Prod.mk.injEq]at h;rw[<-h.2];exact qek _
  ·simp only[pPower,bind,qel]at h
   obtain⟨a,ha,h⟩:=h
   have h1:=ih.factor _ _ _ _ ha
   split at h
   ·simp only[pure,qen.injEq]at h;rw[h]at h1;exact h1
   ·next q hq=>
    have h2:=zao hq
    split at h
    ·next z hz=>
     have h3:=zao hz
     simp only[bind,qel,pure,qen.injEq,Prod.mk.injEq]at h
     obtain⟨k,hk,_,rfl⟩:=h
     have:=zhh hk
     lia
    ·simp only[bind,qel,pure,qen.injEq,Prod.mk.injEq]at h
     obtain⟨k,hk,_,rfl⟩:=h
     have:=zhh hk
     lia
  ·cases ts with
   |nil=>simp[pFactor]at h
   |cons t q=>
    simp only[pFactor]at h
    split at h
    ·simp only[qen.injEq,Prod.mk.injEq]at h;rw[<-h.2];simp
    ·split at h
     ·split at h
      ·next hp=>
       have h0:=zef hp
       simp only[bind,qel,pure,qen.injEq,Prod.mk.injEq]at h
       obtain⟨l,hl,_,rfl⟩:=h
       have:=ih.args _ _ _ _ hl
       simp only[qeg];lia
      ·simp only[qen.injEq,Prod.mk.injEq]at h;rw[<-h.2];simp
     ·split at h
      ·split at h
       ·cases h
       ·simp only[bind,qel,pure,qen.injEq,Prod.mk.injEq]at h
        obtain⟨l,hl,_,rfl⟩:=h
        have:=ih.factor _ _ _ _ hl
        simp only[qeg];lia
      ·simp only[bind,qel,pure,qen.injEq,Prod.mk.injEq]at h
       obtain⟨q',hq,l,hl,z,hz,_,rfl⟩:=h
       have:=zao hq;have:=ih.expr _ _ _ _ hl;have:=zao hz
       lia
  ·simp only[pArgs]at h
   split at h
   ·next z hz=>
    simp only[qen.injEq,Prod.mk.injEq]at h
    have:=zao hz
    rw[<-h.2];lia
   ·exact ih.more _ _ _ _ h
  ·simp only[pMore,bind,qel]at h
   obtain⟨a,ha,h⟩:=h
   have h1:=ih.expr _ _ _ _ ha
   split at h
   ·next z hz=>
    simp only[pure,qen.injEq,Prod.mk.injEq]at h
    have:=zao hz
    rw[<-h.2];lia
   ·simp only[bind,qel,pure,qen.injEq,Prod.mk.injEq]at h
    obtain⟨c,hc,l,hl,_,rfl⟩:=h
    have:=zao hc;have:=ih.more _ _ _ _ hl
    lia
noncomputable def zp6:Bytes:=[110,97,109,101]
noncomputable def zc5:Bytes:=[110,117,109,98,101,114]
noncomputable def qby:Bytes:=[101,110,100]
noncomputable def zjx(t:Tok):Bytes:=if t.kind=0 then zp6 else if t.kind=1 then zc5 else t.text
noncomputable def zb1:List Tok->Bytes
 |[]=>qby
 |t::_=>zjx t
noncomputable def zyy(w:Bytes):Prop:=w≠zp6/\w≠zc5/\w≠qby
theorem zqt{w:Bytes}(h:words.contains w=true):zyy w:=by
 rw[zzc]at h
 have h:w∈[[117,110,105,116],[108,101,116],[102,110],[105,102],[116,104,101,110],[101,108,115,101]]:=by simpa using h
 simp only[qer,qgd,or_false]at h
 rcases h with rfl|rfl|rfl|rfl|rfl|rfl <;> exact⟨by decide,by decide,by decide⟩
theorem zuc(c:Nat):zyy [c]:=⟨by simp[zp6],by simp[zc5],by simp[qby]⟩
theorem zfw{t:Tok}(h:zim t)(hk:t.kind=2):zyy t.text:=by
 rcases h with h|h|h
 ·lia
 ·lia
 ·rcases h.2 with h|⟨c,_,h⟩
  ·exact zqt h
  ·rw[h];exact zuc c
theorem zd7{t:Tok}(h:zim t):t.kind=0\/t.kind=1\/t.kind=2:=by
 rcases h with h|h|h <;> lia
theorem zpj{w:String}{ts:List Tok}(hts:∀t∈ts,zim t)(hw:zyy (bytesOf w)):isTok w ts=true↔zb1 ts=bytesOf w:=by
 cases ts with
 |nil=>exact⟨λh=>by simp[isTok]at h,λh=>absurd h.symm hw.2.2⟩
 |cons t r=>
  have ht:=hts t (by simp)
  simp only[isTok,zb1,zjx,qev,beq_iff_eq]
  rcases zd7 ht with hk|hk|hk
  ·simp only[hk,if_true]
   exact⟨λh=>by lia,λh=>absurd h.symm hw.1⟩
  ·simp only[hk,if_true,show ¬(1=0) by decide,if_false]
   exact⟨λh=>by lia,λh=>absurd h.symm hw.2.1⟩
  ·simp only[hk,show ¬(2=0) by decide,show ¬(2=1) by decide,if_false,true_and]
theorem zum{ts:List Tok}(hts:∀t∈ts,zim t):(∃x,nameAt ts=some x)↔zb1 ts=zp6:=by
 cases ts with
 |nil=>exact⟨λ⟨x,h⟩=>by simp[nameAt]at h,λh=>by exact absurd h (by decide)⟩
 |cons t r=>
  have ht:=hts t (by simp)
  simp only[nameAt,zb1,zjx]
  rcases zd7 ht with hk|hk|hk
  ·simp[hk]
  ·simp only[hk,if_true,show ¬(1=0) by decide,if_false]
   exact⟨λh=>(by obtain⟨x,h⟩:=h;cases h),λh=>absurd h (by decide)⟩
  ·simp only[hk,show ¬(2=0) by decide,show ¬(2=1) by decide,if_false]
   exact⟨λh=>(by obtain⟨x,h⟩:=h;cases h),λh=>absurd h (zfw ht hk).1⟩
theorem zei{t:Tok}{r:List Tok}(ht:zim t):zb1 (t::r)=zc5↔t.kind=1:=by
 simp only[zb1,zjx]
 rcases zd7 ht with hk|hk|hk
 ·simp only[hk,if_true];exact⟨λh=>absurd h (by decide),λh=>by first|lia|(exfalso;revert h;rw[hk];decide)|(exfalso;exact absurd h (by decide))⟩
 ·simp only[hk,if_true,show ¬(1=0) by decide,if_false]
 ·simp only[hk,show ¬(2=0) by decide,show ¬(2=1) by decide,if_false]
  exact⟨λh=>absurd h (zfw ht hk).2.1,λh=>by first|lia|(exfalso;revert h;rw[hk];decide)|(exfalso;exact absurd h (by decide))⟩
theorem zvc{t:Tok}{r:List Tok}(ht:zim t):zb1 (t::r)=zp6↔t.kind=0:=by
 simp only[zb1,zjx]
 rcases zd7 ht with hk|hk|hk
 ·simp only[hk,if_true]
 ·simp only[hk,if_true,show ¬(1=0) by decide,if_false];exact⟨λh=>absurd h (by decide),λh=>by first|lia|(exfalso;revert h;rw[hk];decide)|(exfalso;exact absurd h (by decide))⟩
 ·simp only[hk,show ¬(2=0) by decide,show ¬(2=1) by decide,if_false]
  exact⟨λh=>absurd h (zfw ht hk).1,λh=>by first|lia|(exfalso;revert h;rw[hk];decide)|(exfalso;exact absurd h (by decide))⟩
theorem zyx{t:Tok}{r:List Tok}(ht:zim t):zb1 (t::r)≠qby:=by
 simp only[zb1,zjx]
 rcases zd7 ht with hk|hk|hk
 ·simp only[hk,if_true];decide
 ·simp only[hk,if_true,show ¬(1=0) by decide,if_false];decide
 ·simp only[hk,show ¬(2=0) by decide,show ¬(2=1) by decide,if_false];exact (zfw ht hk).2.2
theorem zpp:∀(l:List Nat)(v:Nat),(∀c∈l,48<=c)->(l.foldl (λv c=>10*v+(c - 48)) v=0↔v=0/\∀c∈l,c=48)
 |[],v,_=>by simp
 |c::l,v,h=>by
  rw[qf7,zpp l _ λx hx=>h x (by simp[hx])]
  have:=h c (by simp)
  constructor
  ·rintro ⟨h1,h2⟩
   refine⟨by lia,λx hx=>?_⟩
   rcases qer.mp hx with rfl|hx
   ·lia
   ·exact h2 x hx
  ·rintro ⟨h1,h2⟩
   have:=h2 c (by simp)
   exact⟨by lia,λx hx=>h2 x (by simp[hx])⟩
theorem zq0(w:Bytes):(number w).1=0↔∀c∈w,digit c=true->c=48:=by
 unfold number
 rw[zpp _ _ λc hc=>by
  have:=(qgb.mp hc).2
  unfold digit at this
  simp only[qev,decide_eq_true_eq]at this
  exact this.1]
 exact⟨λh c hc hd=>h.2 c (qgb.mpr ⟨hc,hd⟩),λh=>⟨rfl,λc hc=>h c (qgb.mp hc).1 (qgb.mp hc).2⟩⟩
theorem zra{k:Nat}{s:St}{v:Int}(h:more k s=.error v):v≠0:=by rw[qat h];decide
theorem zri{r:Row}{v:Int}(h:held r=.error v):v≠0:=by
 unfold held at h
 split at h
 ·cases h
 ·cases h;decide
mutual
theorem zcx(known:Known)(ps:List Bytes):∀(e:E)(s:St)(v:Int),kindE known ps e s=.error v->v≠0
 |.num n t,s,v,h=>by
  simp only[kindE]at h
  split at h
  ·simp only[bind,Except.bind,pure,Except.pure]at h
   cases hm:more 1 s with
   |error u=>rw[hm]at h;cases h;exact zra hm
   |ok q=>rw[hm]at h;cases h
  ·cases h
 |.var x,s,v,h=>by
  simp only[kindE]at h
  split at h
  ·cases h
  ·split at h
   ·next q _=>
    simp only[bind,Except.bind,pure,Except.pure]at h
    cases hm:more q.2.places s with
    |error u=>rw[hm]at h;cases h;exact zra hm
    |ok q=>rw[hm]at h;cases h
   ·cases h;decide
 |.call f l,s,v,h=>by
  simp only[kindE,bind,Except.bind,pure,Except.pure]at h
  cases ha:kindEs known ps l s with
  |error u=>rw[ha]at h;cases h;exact zpf known ps l s _ ha
  |ok a=>
   rw[ha]at h
   simp only at h
   split at h
   ·next q _=>
    cases hm:more q.2.places a.2 with
    |error u=>rw[hm]at h;cases h;exact zra hm
    |ok q=>rw[hm]at h;cases h
   ·cases h;decide
 |.neg e,s,v,h=>by
  simp only[kindE]at h
  exact zcx known ps e s v h
 |.bin op a b,s,v,h=>by
  simp only[kindE,bind,Except.bind,pure,Except.pure]at h
  cases ha:kindE known ps a s with
  |error u=>rw[ha]at h;cases h;exact zcx known ps a s _ ha
  |ok x=>
   rw[ha]at h
   simp only at h
   cases hb:kindE known ps b x.2 with
   |error u=>rw[hb]at h;cases h;exact zcx known ps b _ _ hb
   |ok y=>
    rw[hb]at h
    simp only at h
    split at h
    ·cases hm:held (mul x.1 y.1) with
     |error u=>rw[hm]at h;cases h;exact zri hm
     |ok q=>rw[hm]at h;cases h
    ·split at h
     ·cases hm:held (mul x.1 (pow (-1) y.1)) with
      |error u=>rw[hm]at h;cases h;exact zri hm
      |ok q=>rw[hm]at h;cases h
     ·cases h
 |.pow e k,s,v,h=>by
  simp only[kindE,bind,Except.bind,pure,Except.pure]at h
  cases ha:kindE known ps e s with
  |error u=>rw[ha]at h;cases h;exact zcx known ps e s _ ha
  |ok x=>
   rw[ha]at h
   simp only at h
   cases hm:held (pow k x.1) with
   |error u=>rw[hm]at h;cases h;exact zri hm
   |ok q=>rw[hm]at h;cases h
 |.ite a b x y,s,v,h=>by
  simp only[kindE,bind,Except.bind,pure,Except.pure]at h
  cases ha:kindE known ps a s with
  |error u=>rw[ha]at h;cases h;exact zcx known ps a s _ ha
  |ok p=>
   rw[ha]at h
   simp only at h
   cases hb:kindE known ps b p.2 with
   |error u=>rw[hb]at h;cases h;exact zcx known ps b _ _ hb
   |ok q=>
    rw[hb]at h
    simp only at h
    cases hx:kindE known ps x (alike p.1 q.1 q.2) with
    |error u=>rw[hx]at h;cases h;exact zcx known ps x _ _ hx
    |ok u=>
     rw[hx]at h
     simp only at h
     cases hy:kindE known ps y u.2 with
     |error u=>rw[hy]at h;cases h;exact zcx known ps y _ _ hy
     |ok w=>rw[hy]at h;cases h
theorem zpf(known:Known)(ps:List Bytes):∀(l:Es)(s:St)(v:Int),kindEs known ps l s=.error v->v≠0
 |.nil,s,v,h=>by simp[kindEs]at h
 |.cons e l,s,v,h=>by
  simp only[kindEs,bind,Except.bind,pure,Except.pure]at h
  cases ha:kindE known ps e s with
  |error u=>rw[ha]at h;cases h;exact zcx known ps e s _ ha
  |ok x=>
   rw[ha]at h
   simp only at h
   cases hb:kindEs known ps l x.2 with
   |error u=>rw[hb]at h;cases h;exact zpf known ps l _ _ hb
   |ok y=>rw[hb]at h;cases h
end
noncomputable def zve(known:Known)(ps:List Bytes)(l:List Sx):Prop:=match zji known ps l (zd8 ps.length) with
 |.error v=>v≠0
 |.ok m=>∃r,m.st=[r]
theorem qbj{known:Known}{ps:List Bytes}{e:E}(hu:∀u∈e.uses,zqb known ps u):zve known ps (za5 e):=by
 unfold zve zd8
 have hrun:=zcn known ps e [] ⟨ps.length,[]⟩ [] hu
 rw[qfe]at hrun
 rw[hrun]
 cases hq:kindE known ps e ⟨ps.length,[]⟩ with
 |error v=>exact zcx known ps e _ v hq
 |ok q=>exact⟨q.1,rfl⟩
theorem zuo{known:Known}{ps:List Bytes}(hk:∀q∈known,q.2.of.length<=6){x:Sx}{m m':MS}(h:zbd known ps x m=.ok m'):m'.s.eqs.length<=m.s.eqs.length+6/\m'.st.length<=m.st.length+1:=by
 have hm:∀{k:Nat}{s:St}{q:Nat×St},more k s=.ok q->q.2.eqs=s.eqs:=λh=>(zgs h).2.2.1
 have p2:∀{k:List Row->Row->Row->MR},zub m k=.ok m'->∃r x y,m.st=r++[x]++[y]/\k r x y=.ok m':=λ{k} h=>by
  unfold zub at h
  split at h
  ·next y x r e=>exact⟨r.reverse,x,y,rev2 e,h⟩
  ·cases h
 cases x with
 |zero=>
  simp only[zbd]at h
  cases hq:more 1 m.s with
  |error v=>rw[hq]at h;cases h
  |ok q=>rw[hq]at h;cases h;simp[hm hq]
 |number=>simp only[zbd]at h;cases h;simp
 |name y=>
  simp only[zbd]at h
  split at h
  ·cases h;simp
  ·split at h
   ·next q _=>
    cases hq:more q.2.places m.s with
    |error v=>rw[hq]at h;cases h
    |ok q=>rw[hq]at h;cases h;simp[hm hq]
   ·cases h
 |call f n=>
  simp only[zbd]at h
  split at h
  ·next q hf=>
   split at h
   ·cases h
   ·cases hq:more q.2.places m.s with
    |error v=>rw[hq]at h;cases h
    |ok z=>
     rw[hq]at h;cases h
     have:=hk q (qgh hf)
     simp only[zf5,hm hq,qee,qjh,qe2,qi8]
     lia
  ·cases h
 |pw k=>
  simp only[zbd]at h
  split at h
  ·next x r e=>
   split at h
   ·cases h
    have:=congrArg qg4 e
    simp only[List.length_reverse,qeg]at this
    simp;lia
   ·cases h
  ·cases h
 |times=>
  simp only[zbd]at h
  obtain⟨r,x,y,e,h⟩:=p2 h
  split at h
  ·cases h;rw[e];simp
  ·cases h
 |over=>
  simp only[zbd]at h
  obtain⟨r,x,y,e,h⟩:=p2 h
  split at h
  ·cases h;rw[e];simp
  ·cases h
 |alike=>
  simp only[zbd]at h
  obtain⟨r,x,y,e,h⟩:=p2 h
  cases h;rw[e];simp[alike]
 |compare=>
  simp only[zbd]at h
  obtain⟨r,x,y,e,h⟩:=p2 h
  cases h;rw[e];simp[alike];lia
theorem zgi:∀{l:List Bytes},distinct l=true->l.Nodup
 |[],_=>qij
 |x::l,h=>by
  simp only[distinct,qev,qin]at h
  refine qgz.mpr ⟨λz=>?_,zgi h.2⟩
  have:l.contains x=true:=by simpa using z
  rw[this]at h;exact absurd h.1 (by simp)
theorem zqs{before:List Item}{i:Item}(hd:zlq before)(h:rightItem before i=true):(params i).Nodup:=by
 rw[zdz hd]at h
 unfold ziy at h
 rw[zq6]at h
 simp only[qev]at h
 exact zgi h.1.2.1.1
theorem zwc{before:List Item}{known:Known}{i:Item}(hd:zlq before)(hk:KO before known)(h:rightItem before i=true)(hu:zd3 i=false):zve known (params i) (zbz i):=by
 unfold rightItem at h
 cases i with
 |unit x=>cases hu
 |let_ x e=>
  simp only[qev,qeo]at h
  exact qbj λw hw=>zjc hd hk (h.2 w hw)
 |fn x ps e=>
  simp only[qev,qeo]at h
  exact qbj λw hw=>zjc hd hk (h.2.2 w hw)
theorem zwd{before:List Item}{i:Item}(hd:zlq before)(h:rightItem before i=true):zlq (before++[i]):=zgk hd ((zdz hd i).symm.trans h)
theorem ztm{before:List Item}{i:Item}(hd:zlq (before++[i])):before.find? (λj=>j.name == i.name)=none:=by
 rw[List.find?_eq_none]
 intro j hj z
 unfold zlq at hd
 rw[qej,qim]at hd
 exact hd.2.2 j.name (qe1.mpr ⟨j,hj,rfl⟩) i.name (by simp) (by simpa using z)
theorem zxw{before:List Item}{known:Known}{i:Item}(hk:KO before known)(hd:zlq (before++[i])):(known.find? λq=>q.1 == i.name)=none:=by
 have:=hk.find i.name
 rw[ztm hd]at this
 exact this
theorem KO.names{b:List Item}{k:Known}(h:KO b k):k.map (·.1)=b.map Item.name:=by
 induction h with
 |nil=>rfl
 |cons _ _ _ ih=>simp[ih]
theorem KO.le{b:List Item}{k:Known}(h:KO b k)(hp:∀i∈b,(params i).length<=6):∀q∈k,q.2.of.length<=6:=by
 induction h with
 |nil=>intro q hq;simp at hq
 |cons a c _ ih=>
  intro q hq
  rcases qer.mp hq with rfl|hq
  ·rw[c];exact hp _ (by simp)
  ·exact ih (λi hi=>hp i (by simp[hi])) q hq
theorem qd0{k:Known}(hd:(k.map (·.1)).Nodup){j:Nat}{q:Bytes×Kind}(h:k[j]?=some q):(k.find? λp=>p.1 == q.1)=some q:=by
 induction k generalizing j with
 |nil=>simp at h
 |cons p k ih=>
  rw[qfh,qgz]at hd
  cases j with
  |zero=>simp at h;subst h;simp
  |succ j=>
   have hj:k[j]?=some q:=by simpa using h
   rw[qfu]
   have hne:¬p.1=q.1:=λz=>hd.1 (by rw[z];exact qe1.mpr ⟨q,qe7 hj,rfl⟩)
   have hb:(p.1 == q.1)=false:=by simpa using hne
   rw[hb]
   exact ih hd.2 hj
structure zlc(t:Tok):Prop where
 ok:zim t
 num:t.kind=1->∀c∈t.text,digit c=true\/c=46
 len:t.text.length<=100000
theorem zdd(p:Nat->Bool):∀(l:List Nat),∀c∈l.takeWhile p,p c=true
 |[],c,h=>by simp at h
 |x::l,c,h=>by
  rw[qfm]at h
  split at h
  ·next hp=>
   rcases qer.mp h with rfl|h
   ·exact hp
   ·exact zdd p l c h
  ·simp at h
theorem zlw{b w q:Bytes}(h:numberAt b=some (w,q)):∀c∈w,digit c=true\/c=46:=by
 unfold numberAt at h
 simp only at h
 split at h
 ·split at h
  ·cases h
  ·simp only[qen.injEq,Prod.mk.injEq]at h
   rw[<-h.1]
   intro c hc
   rcases qeq.mp hc with hc|hc
   ·exact .inl (zdd digit _ c hc)
   ·rcases qer.mp hc with rfl|hc
    ·exact .inr rfl
    ·exact .inl (zdd digit _ c hc)
 ·simp only[qen.injEq,Prod.mk.injEq]at h
  rw[<-h.1]
  intro c hc
  exact .inl (zdd digit _ c hc)
theorem zql{b:Bytes}{t:Tok}(h:za8 b=some t)(hk:t.kind=1):∀c∈t.text,digit c=true\/c=46:=by
 cases b with
 |nil=>simp[za8]at h
 |cons c r=>
  simp only[za8]at h
  split at h
  ·split at h
   ·cases h
   ·simp only[qen.injEq]at h
    subst h
    unfold zjp at hk
    simp only at hk
    split at hk <;> lia
  ·split at h
   ·cases hn:numberAt (c::r) with
    |none=>rw[hn]at h;cases h
    |some p=>
     obtain⟨w,q⟩:=p
     rw[hn]at h
     simp only at h
     split at h
     ·cases h
     ·cases h;exact zlw hn
   ·split at h
    ·cases h;simp at hk
    ·cases h
theorem zks:∀(n:Nat)(b:Bytes)(ts:List Tok),b.length<=n->b.length<=100000->zkt b=some ts->∀t∈ts,zlc t
 |n,[],ts,_,_,h,t,ht=>by
  rw[zs9]at h;cases h;simp at ht
 |0,_::_,_,h,_,_,_,_=>by simp at h
 |n+1,c::r,ts,hn,hl,h,t,ht=>by
  simp only[qeg]at hn hl
  by_cases hb:zb4 c=true
  ·rw[zmz hb]at h
   exact zks n r ts (by lia) (by lia) h t ht
  ·have hb':zb4 c=false:=by simpa using hb
   rw[zpe hb']at h
   cases hk:za8 (c::r) with
   |none=>rw[hk]at h;cases h
   |some u=>
    rw[hk]at h
    dsimp only at h
    obtain⟨h1,h2,h3⟩:=zcz hk
    simp only[qeg]at h3
    cases hr:zkt ((c::r).drop u.text.length) with
    |none=>rw[hr]at h;cases h
    |some l=>
     rw[hr]at h
     simp only[qez,qen.injEq]at h
     subst h
     rcases qer.mp ht with rfl|ht
     ·exact⟨zt2 hk,zql hk,by lia⟩
     ·refine zks n _ l ?_ ?_ hr t ht <;> (simp;lia)
noncomputable def Bnd:Sx->Prop
 |.call _ n=>n<1000000
 |.pw k=>-1000<k/\k<1000
 |_=>True
structure Fi(l:List Sx)(ts r:List Tok):Prop where
 len:l.length+r.length<=ts.length
 sub:∀t∈r,t∈ts
 bnd:∀x∈l,Bnd x
structure Fj(a l:List Sx)(ts r:List Tok):Prop where
 len:l.length+r.length<=a.length+ts.length
 sub:∀t∈r,t∈ts
 bnd:(∀x∈a,Bnd x)->∀x∈l,Bnd x
noncomputable def In1(ts:List Tok):Prop:=(∀t∈ts,zlc t)/\ts.length<=10000
theorem In1.of{ts r:List Tok}(h:In1 ts)(hs:∀t∈r,t∈ts)(hl:r.length<=ts.length):In1 r:=⟨λt ht=>h.1 t (hs t ht),by have:=h.2;lia⟩
theorem In1.drop1{ts:List Tok}(h:In1 ts)(n:Nat):In1 (ts.drop n):=h.of (λt ht=>qey ht) (by simp)
theorem zye{w:String}{ts r:List Tok}(h:eat w ts=some r):r=ts.drop 1:=by
 unfold eat at h
 split at h
 ·cases h;rfl
 ·cases h
theorem za0{w:String}{ts r:List Tok}(h:eat w ts=some r):∀t∈r,t∈ts:=λt ht=>by rw[zye h]at ht;exact qey ht
theorem zmo{ts r:List Tok}{k:Nat}(hi:In1 ts)(h:power ts=some (k,r)):k<=9/\(∀t∈r,t∈ts):=by
 cases ts with
 |nil=>simp[power]at h
 |cons t q=>
  simp only[power]at h
  split at h
  ·next hc=>
   simp only[qen.injEq,Prod.mk.injEq]at h
   obtain⟨h1,h2⟩:=h
   refine⟨?_,λu hu=>by rw[<-h2]at hu;simp[hu]⟩
   have hf:=(hi.1 t (by simp)).num hc.1
   cases ht:t.text with
   |nil=>rw[ht]at hc;simp at hc
   |cons c l=>
    rw[ht]at h1 hf
    simp only[List.headD_cons]at h1
    have:=hf c (by simp)
    unfold digit at this
    simp only[qev,decide_eq_true_eq]at this
    lia
  ·cases h
structure Gd(f:Nat):Prop where
 expr:∀d ts e r,In1 ts->pExpr f d ts=some (e,r)->Fi (za5 e) ts r
 sum:∀d ts e r,In1 ts->pSum f d ts=some (e,r)->Fi (za5 e) ts r
 sumR:∀d a ts e r,In1 ts->pSumRest f d a ts=some (e,r)->Fj (za5 a) (za5 e) ts r
 term:∀d ts e r,In1 ts->pTerm f d ts=some (e,r)->Fi (za5 e) ts r
 termR:∀d a ts e r,In1 ts->pTermRest f d a ts=some (e,r)->Fj (za5 a) (za5 e) ts r
 power:∀d ts e r,In1 ts->pPower f d ts=some (e,r)->Fi (za5 e) ts r
 factor:∀d ts e r,In1 ts->pFactor f d ts=some (e,r)->Fi (za5 e) ts r
 args:∀d ts l r,In1 ts->pArgs f d ts=some (l,r)->Fi (zds l) ts r/\l.list.length+r.length<=ts.length
 more:∀d ts l r,In1 ts->pMore f d ts=some (l,r)->Fi (zds l) ts r/\l.list.length+r.length<=ts.length
theorem qbx(op:Nat):Bnd (if op=42 then .times else if op=47 then .over else .alike):=by split <;> (try split) <;> trivial
theorem gd:∀f,Gd f
 |0=>⟨λ_ _ _ _ _ h=>by simp[pExpr]at h,λ_ _ _ _ _ h=>by simp[pSum]at h,λ_ _ _ _ _ _ h=>by simp[pSumRest]at h,λ_ _ _ _ _ h=>by simp[pTerm]at h,λ_ _ _ _ _ _ h=>by simp[pTermRest]at h,
   λ_ _ _ _ _ h=>by simp[pPower]at h,λ_ _ _ _ _ h=>by simp[pFactor]at h,λ_ _ _ _ _ h=>by simp[pArgs]at h,λ_ _ _ _ _ h=>by simp[pMore]at h⟩
 |f+1=>by
  have ih:=gd f
  refine⟨λd ts e r hi h=>?_,λd ts e r hi h=>?_,λd a ts e r hi h=>?_,λd ts e r hi h=>?_,λd a ts e r hi h=>?_,λd ts e r hi h=>?_,λd ts e r hi h=>?_,λd ts e r hi h=>?_,λd ts e r hi h=>?_⟩
  ·simp only[pExpr]at h
   split at h
   ·cases h
   ·split at h
    ·next hif=>
     have h0:=zef hif
     simp only[bind,qel,pure,qen.injEq,Prod.mk.injEq]at h
     obtain⟨a,ha,q,hq,b,hb,t,ht,x,hx,u,hu,y,hy,rfl,rfl⟩:=h
     have i1:=hi.drop1 1
     have g1:=ih.sum _ _ _ _ i1 ha
     have l1:=zao hq
     have iq:In1 q:=i1.of (λt h=>g1.sub t (za0 hq t h)) (by have:=g1.len;lia)
     have g2:=ih.sum _ _ _ _ iq hb
     have l2:=zao ht
     have it:In1 t:=iq.of (λz h=>g2.sub z (za0 ht z h)) (by have:=g2.len;lia)
     have g3:=ih.expr _ _ _ _ it hx
     have l3:=zao hu
     have iu:In1 u:=it.of (λz h=>g3.sub z (za0 hu z h)) (by have:=g3.len;lia)
     have g4:=ih.expr _ _ _ _ iu hy
     have m1:=g1.len;have m2:=g2.len;have m3:=g3.len;have m4:=g4.len
     refine⟨?_,λz hz=>?_,λz hz=>?_⟩
     ·simp only[za5,qee,qeg,qe8];lia
     ·exact qey (g1.sub z (za0 hq z (g2.sub z (za0 ht z (g3.sub z (za0 hu z (g4.sub z hz)))))))
     ·simp only[za5,qeq,qer,qgd,or_false]at hz
      rcases hz with hz|hz|rfl|hz|hz|rfl
      ·exact g1.bnd z hz
      ·exact g2.bnd z hz
      ·trivial
      ·exact g3.bnd z hz
      ·exact g4.bnd z hz
      ·trivial
    ·exact ih.sum _ _ _ _ hi h
  ·simp only[pSum,bind,qel]at h
   obtain⟨a,ha,h⟩:=h
   have g1:=ih.term _ _ _ _ hi ha
   have g2:=ih.sumR _ _ _ _ _ (hi.of g1.sub (by have:=g1.len;lia)) h
   have m1:=g1.len;have m2:=g2.len
   exact⟨by lia,λt ht=>g1.sub t (g2.sub t ht),g2.bnd g1.bnd⟩
  ·simp only[pSumRest]at h
   split at h
   ·next op ho=>
    simp only[bind,qel]at h
    obtain⟨b,hb,h⟩:=h
    have l0:=zjf ho
    have g1:=ih.term _ _ _ _ (hi.drop1 1) hb
    have g2:=ih.sumR _ _ _ _ _ ((hi.drop1 1).of g1.sub (by have:=g1.len;lia)) h
    have m1:=g1.len;have m2:=g2.len
    refine⟨?_,λt ht=>qey (g1.sub t (g2.sub t ht)),λha=>g2.bnd λx hx=>?_⟩
    ·simp only[za5,qee,qeg,qe8]at m2;lia
    ·simp only[za5,qeq,qer,qgd,or_false]at hx
     rcases hx with hx|hx|rfl
     ·exact ha x hx
     ·exact g1.bnd x hx
     ·exact qbx op
   ·simp only[qen.injEq,Prod.mk.injEq]at h;obtain⟨rfl,rfl⟩:=h;exact⟨qek _,λ_ h=>h,λh=>h⟩
  ·simp only[pTerm,bind,qel]at h
   obtain⟨a,ha,h⟩:=h
   have g1:=ih.power _ _ _ _ hi ha
   have g2:=ih.termR _ _ _ _ _ (hi.of g1.sub (by have:=g1.len;lia)) h
   have m1:=g1.len;have m2:=g2.len
   exact⟨by lia,λt ht=>g1.sub t (g2.sub t ht),g2.bnd g1.bnd⟩
  ·simp only[pTermRest]at h
   split at h
   ·next op ho=>
    simp only[bind,qel]at h
    obtain⟨b,hb,h⟩:=h
    have l0:=zjf ho
    have g1:=ih.power _ _ _ _ (hi.drop1 1) hb
    have g2:=ih.termR _ _ _ _ _ ((hi.drop1 1).of g1.sub (by have:=g1.len;lia)) h
    have m1:=g1.len;have m2:=g2.len
    refine⟨?_,λt ht=>qey (g1.sub t (g2.sub t ht)),λha=>g2.bnd λx hx=>?_⟩
    ·simp only[za5,qee,qeg,qe8]at m2;lia
    ·simp only[za5,qeq,qer,qgd,or_false]at hx
     rcases hx with hx|hx|rfl
     ·exact ha x hx
     ·exact g1.bnd x hx
     ·exact qbx op
   ·simp only[qen.injEq,Prod.mk.injEq]at h;obtain⟨rfl,rfl⟩:=h;exact⟨qek _,λ_ h=>h,λh=>h⟩
  ·simp only[pPower,bind,qel]at h
   obtain⟨a,ha,h⟩:=h
   have g1:=ih.factor _ _ _ _ hi ha
   have m1:=g1.len
   have i2:In1 a.2:=hi.of g1.sub (by lia)
   split at h
   ·simp only[pure,qen.injEq]at h;subst h;exact g1
   ·next q hq=>
    have l2:=zao hq
    have iq:In1 q:=i2.of (za0 hq) (by lia)
    split at h
    ·next z hz=>
     have l3:=zao hz
     have iz:In1 z:=iq.of (za0 hz) (by lia)
     simp only[bind,qel,pure,qen.injEq,Prod.mk.injEq]at h
     obtain⟨k,hk,rfl,rfl⟩:=h
     have:=zhh hk
     have pf:=zmo iz hk
     refine⟨by simp only[za5,qee,qeg,qe8];lia,λt ht=>g1.sub t (za0 hq t (za0 hz t (pf.2 t ht))),λx hx=>?_⟩
     simp only[za5,qeq,qer,qgd,or_false]at hx
     rcases hx with hx|rfl
     ·exact g1.bnd x hx
     ·exact⟨by have:=pf.1;lia,by have:=pf.1;lia⟩
    ·simp only[bind,qel,pure,qen.injEq,Prod.mk.injEq]at h
     obtain⟨k,hk,rfl,rfl⟩:=h
     have:=zhh hk
     have pf:=zmo iq hk
     refine⟨by simp only[za5,qee,qeg,qe8];lia,λt ht=>g1.sub t (za0 hq t (pf.2 t ht)),λx hx=>?_⟩
     simp only[za5,qeq,qer,qgd,or_false]at hx
     rcases hx with hx|rfl
     ·exact g1.bnd x hx
     ·exact⟨by have:=pf.1;lia,by have:=pf.1;lia⟩
  ·cases ts with
   |nil=>simp[pFactor]at h
   |cons t q=>
    simp only[pFactor]at h
    have iq:In1 q:=hi.of (λz hz=>by simp[hz]) (by simp)
    split at h
    ·simp only[qen.injEq,Prod.mk.injEq]at h
     obtain⟨rfl,rfl⟩:=h
     refine⟨?_,λz hz=>by simp[hz],λx hx=>?_⟩
     ·simp[za5];lia
     ·simp only[za5,qer,qgd,or_false]at hx
      subst hx;split <;> trivial
    ·split at h
     ·split at h
      ·next hp=>
       have h0:=zef hp
       simp only[bind,qel,pure,qen.injEq,Prod.mk.injEq]at h
       obtain⟨l,hl,rfl,rfl⟩:=h
       obtain⟨g,gl⟩:=ih.args _ _ _ _ (iq.drop1 1) hl
       have m1:=g.len
       have l10:=hi.2
       simp only[qeg]at l10
       refine⟨by simp only[za5,qee,qeg,qe8];lia,λz hz=>by have:=qey (g.sub z hz);simp[this],λx hx=>?_⟩
       simp only[za5,qeq,qer,qgd,or_false]at hx
       rcases hx with hx|rfl
       ·exact g.bnd x hx
       ·show l.1.list.length<1000000
        lia
      ·simp only[qen.injEq,Prod.mk.injEq]at h
       obtain⟨rfl,rfl⟩:=h
       refine⟨by simp[za5];lia,λz hz=>by simp[hz],λx hx=>?_⟩
       simp only[za5,qer,qgd,or_false]at hx
       subst hx;trivial
     ·split at h
      ·split at h
       ·cases h
       ·simp only[bind,qel,pure,qen.injEq,Prod.mk.injEq]at h
        obtain⟨l,hl,rfl,rfl⟩:=h
        have g:=ih.factor _ _ _ _ iq hl
        have m1:=g.len
        exact⟨by simp only[za5,qeg];lia,λz hz=>by simp[g.sub z hz],λx hx=>g.bnd x (by simpa [za5] using hx)⟩
      ·simp only[bind,qel,pure,qen.injEq,Prod.mk.injEq]at h
       obtain⟨q',hq,l,hl,z,hz,rfl,rfl⟩:=h
       have l1:=zao hq
       have g:=ih.expr _ _ _ _ (hi.of (za0 hq) (by lia)) hl
       have l2:=zao hz
       have m1:=g.len
       exact⟨by lia,λu hu=>za0 hq u (g.sub u (za0 hz u hu)),g.bnd⟩
  ·simp only[pArgs]at h
   split at h
   ·next z hz=>
    simp only[qen.injEq,Prod.mk.injEq]at h
    obtain⟨rfl,rfl⟩:=h
    have:=zao hz
    exact⟨⟨by simp[zds];lia,za0 hz,λx hx=>by simp[zds]at hx⟩,by simp[Es.list];lia⟩
   ·exact ih.more _ _ _ _ hi h
  ·simp only[pMore,bind,qel]at h
   obtain⟨a,ha,h⟩:=h
   have g1:=ih.expr _ _ _ _ hi ha
   have m1:=g1.len
   split at h
   ·next z hz=>
    simp only[pure,qen.injEq,Prod.mk.injEq]at h
    obtain⟨rfl,rfl⟩:=h
    have:=zao hz
    have s1:=(shr f).expr _ _ _ _ ha
    refine⟨⟨by simp[zds];lia,λt ht=>g1.sub t (za0 hz t ht),λx hx=>g1.bnd x (by simpa [zds] using hx)⟩,by simp[Es.list];lia⟩
   ·simp only[bind,qel,pure,qen.injEq,Prod.mk.injEq]at h
    obtain⟨c,hc,l,hl,rfl,rfl⟩:=h
    have l1:=zao hc
    have ic:In1 c:=hi.of (λt ht=>g1.sub t (za0 hc t ht)) (by lia)
    obtain⟨g2,g3⟩:=ih.more _ _ _ _ ic hl
    have m2:=g2.len
    have s1:=(shr f).expr _ _ _ _ ha
    refine⟨⟨by simp only[zds,qee];lia,λt ht=>g1.sub t (za0 hc t (g2.sub t ht)),λx hx=>?_⟩,by simp only[Es.list,qeg];lia⟩
    simp only[zds,qeq]at hx
    exact hx.elim (g1.bnd x) (g2.bnd x)
noncomputable def zqu(f d:Nat)(ts:List Tok):Option (E×List Tok):=match nameAt ts with
 |none=>none
 |some x=>match eat "(" (ts.drop 1) with
  |none=>some (.var x,ts.drop 1)
  |some q=>(pArgs f (d+1) q).map λl=>(.call x l.1,l.2)
noncomputable def zxg:List Tok->Option (E×List Tok)
 |t::r=>some (.num (number t.text).1 (number t.text).2,r)
 |[]=>none
theorem zba{w:String}{ts:List Tok}:eat w ts=if isTok w ts then some (ts.drop 1) else none:=rfl
theorem zm2{w:String}{t:Tok}{r:List Tok}(h:isTok w (t::r)=true):t.kind=2:=by
 simp only[isTok,qev,beq_iff_eq]at h;exact h.1
theorem zf3{w:String}{t:Tok}{r:List Tok}(h:isTok w (t::r)=true):t.text=bytesOf w:=by
 simp only[isTok,qev,beq_iff_eq]at h;exact h.2
theorem zuf(f d:Nat)(ts:List Tok)(hts:∀t∈ts,zim t):pFactor (f+1) d ts=match eat "-" ts with
  |some r=>if 32<=d then none else (pFactor f (d+1) r).map λe=>(.neg e.1,e.2)
  |none=>match eat "(" ts with
   |some r=>(match pExpr f (d+1) r with
    |none=>none
    |some e=>(eat ")" e.2).map λz=>(e.1,z))
   |none=>if zb1 ts=zc5 then zxg ts else zqu f d ts:=by
 cases ts with
 |nil=>
  simp only[pFactor,zba,isTok,qe0,if_false,zqu,nameAt]
  rw[if_neg (by decide)]
 |cons t r=>
  have ht:=hts t (by simp)
  simp only[pFactor]
  rcases zd7 ht with hk|hk|hk
  ·have n1:∀w,isTok w (t::r)=false:=λw=>by cases e:isTok w (t::r) with
    |false=>rfl
    |true=>have:=zm2 e;lia
   have na:¬zb1 (t::r)=zc5:=λz=>by have:=(zei ht).mp z;lia
   rw[zba,zba,n1,n1,if_neg (by lia),if_pos hk,if_neg na]
   simp only[qe0,if_false,zqu,nameAt,hk,if_true,qji,qgx,zba]
   cases isTok "(" r with
   |false=>simp
   |true=>
    simp only[if_true,bind,pure]
    cases pArgs f (d+1) (r.drop 1) <;> rfl
  ·have n1:∀w,isTok w (t::r)=false:=λw=>by cases e:isTok w (t::r) with
    |false=>rfl
    |true=>have:=zm2 e;lia
   rw[zba,zba,n1,n1,if_pos hk,if_pos ((zei ht).mpr hk)]
   simp[zxg]
  ·have na:¬zb1 (t::r)=zc5:=λz=>by have:=(zei ht).mp z;lia
   have nn:nameAt (t::r)=none:=by simp[nameAt,hk]
   rw[if_neg (by lia),if_neg (by lia),zba,zba]
   cases h1:isTok "-" (t::r) with
   |true=>
    simp only[if_true,qji,qgx]
    show (if DEEP<=d then none else _)=_
    by_cases h32:32<=d
    ·rw[if_pos (show DEEP<=d from h32),if_pos h32]
    ·rw[if_neg (show ¬DEEP<=d from h32),if_neg h32]
     simp only[bind,pure]
     cases pFactor f (d+1) r <;> rfl
   |false=>
    simp only[qe0,if_false]
    cases h2:isTok "(" (t::r) with
    |true=>
     simp only[bind,pure,qe4,if_true]
     cases pExpr f (d+1) ((t::r).drop 1) with
     |none=>rfl
     |some e=>
      simp only[qe4]
      cases eat ")" e.2 <;> rfl
    |false=>
     simp only[qe0,if_false,bind,Option.bind_none]
     rw[if_neg na,zqu,nn]
theorem zww(f d:Nat)(ts:List Tok):pPower (f+1) d ts=match pFactor f d ts with
  |none=>none
  |some a=>match eat "^" a.2 with
   |none=>some a
   |some q=>match eat "-" q with
    |some z=>(power z).map λk=>(.pow a.1 (-(k.1:Int)),k.2)
    |none=>(power q).map λk=>(.pow a.1 (k.1:Int),k.2):=by
 simp only[pPower,bind,pure]
 cases pFactor f d ts with
 |none=>rfl
 |some a=>
  simp only[qe4]
  cases eat "^" a.2 with
  |none=>rfl
  |some q=>
   simp only
   cases eat "-" q with
   |none=>simp only;cases power q <;> rfl
   |some z=>simp only;cases power z <;> rfl
theorem zz4(f d:Nat)(ts:List Tok):pTerm (f+1) d ts=match pPower f d ts with
  |none=>none
  |some a=>pTermRest f d a.1 a.2:=by
 simp only[pTerm,bind]
 cases pPower f d ts <;> rfl
theorem qc7(f d:Nat)(ts:List Tok):pSum (f+1) d ts=match pTerm f d ts with
  |none=>none
  |some a=>pSumRest f d a.1 a.2:=by
 simp only[pSum,bind]
 cases pTerm f d ts <;> rfl
theorem zfe(f d:Nat)(a:E)(ts:List Tok):pTermRest (f+1) d a ts=match eat "*" ts with
  |some r=>(match pPower f d r with
   |none=>none
   |some b=>pTermRest f d (.bin 42 a b.1) b.2)
  |none=>match eat "/" ts with
   |some r=>(match pPower f d r with
    |none=>none
    |some b=>pTermRest f d (.bin 47 a b.1) b.2)
   |none=>some (a,ts):=by
 simp only[pTermRest,opOf,zba,qfu,List.find?_nil]
 cases isTok "*" ts with
 |true=>
  simp only[if_true,qez,bind]
  cases pPower f d (ts.drop 1) <;> rfl
 |false=>
  simp only[qe0,if_false]
  cases isTok "/" ts with
  |true=>
   simp only[if_true,qez,bind]
   cases pPower f d (ts.drop 1) <;> rfl
  |false=>simp
theorem zgp(f d:Nat)(a:E)(ts:List Tok):pSumRest (f+1) d a ts=match eat "+" ts with
  |some r=>(match pTerm f d r with
   |none=>none
   |some b=>pSumRest f d (.bin 43 a b.1) b.2)
  |none=>match eat "-" ts with
   |some r=>(match pTerm f d r with
    |none=>none
    |some b=>pSumRest f d (.bin 45 a b.1) b.2)
   |none=>some (a,ts):=by
 simp only[pSumRest,opOf,zba,qfu,List.find?_nil]
 cases isTok "+" ts with
 |true=>
  simp only[if_true,qez,bind]
  cases pTerm f d (ts.drop 1) <;> rfl
 |false=>
  simp only[qe0,if_false]
  cases isTok "-" ts with
  |true=>
   simp only[if_true,qez,bind]
   cases pTerm f d (ts.drop 1) <;> rfl
  |false=>simp
theorem zsw(f d:Nat)(ts:List Tok):pExpr (f+1) d ts=if 32<d then none else match eat "if" ts with
  |none=>pSum f d ts
  |some r=>match pSum f d r with
   |none=>none
   |some a=>match eat "<" a.2 with
    |none=>none
    |some q=>match pSum f d q with
     |none=>none
     |some b=>match eat "then" b.2 with
      |none=>none
      |some t=>match pExpr f (d+1) t with
       |none=>none
       |some x=>match eat "else" x.2 with
        |none=>none
        |some u=>match pExpr f (d+1) u with
         |none=>none
         |some y=>some (.ite a.1 b.1 x.1 y.1,y.2):=by
 simp only[pExpr]
 show (if 32<d then none else _)=_
 by_cases h:32<d
 ·rw[if_pos h,if_pos h]
 ·rw[if_neg h,if_neg h,zba]
  cases isTok "if" ts with
  |false=>simp
  |true=>
   simp only[if_true,bind,pure]
   cases pSum f d (ts.drop 1) with
   |none=>rfl
   |some a=>
    simp only[qe4]
    cases eat "<" a.2 with
    |none=>rfl
    |some q=>
     simp only[qe4]
     cases pSum f d q with
     |none=>rfl
     |some b=>
      simp only[qe4]
      cases eat "then" b.2 with
      |none=>rfl
      |some t=>
       simp only[qe4]
       cases pExpr f (d+1) t with
       |none=>rfl
       |some x=>
        simp only[qe4]
        cases eat "else" x.2 with
        |none=>rfl
        |some u=>
         simp only[qe4]
         cases pExpr f (d+1) u <;> rfl
noncomputable def zqm(f d:Nat)(ts:List Tok):Option (Es×List Tok):=match eat "," ts with
 |some c=>pMore f d c
 |none=>(eat ")" ts).map λz=>(.nil,z)
theorem ztk{v w:String}{ts r:List Tok}(hvw:bytesOf v≠bytesOf w)(h:eat v ts=some r):eat w ts=none:=by
 rw[zba]at h ⊢
 cases hv:isTok v ts with
 |false=>rw[hv]at h;simp at h
 |true=>
  cases ts with
  |nil=>simp[isTok]at hv
  |cons t q=>
   cases hw:isTok w (t::q) with
   |false=>rfl
   |true=>exact absurd ((zf3 hv).symm.trans (zf3 hw)) hvw
theorem zsu(f d:Nat)(ts:List Tok):pMore (f+1) d ts=match pExpr f d ts with
  |none=>none
  |some e=>(zqm f d e.2).map λl=>(.cons e.1 l.1,l.2):=by
 simp only[pMore,bind,pure]
 cases pExpr f d ts with
 |none=>rfl
 |some e=>
  simp only[qe4]
  unfold zqm
  cases hc:eat "," e.2 with
  |some c=>
   rw[ztk (w:=")") (by decide) hc]
   simp only[qe4]
   cases pMore f d c <;> rfl
  |none=>
   cases eat ")" e.2 <;> rfl
theorem zz5(f d:Nat)(ts:List Tok):pArgs (f+1) d ts=match eat ")" ts with
  |some z=>some (.nil,z)
  |none=>pMore f d ts:=by
 simp only[pArgs]
 cases eat ")" ts <;> rfl
end Mir
namespace L3
open PySem
abbrev frm(l:List Env):List Addr:=l.filterMap (·.frame)
def Trc(h:Heap)(e:Addr)(vs:Array Value)(T:Option Addr):Prop:=match T with
 |none=>vs[1]?=some .none
 |some T=>vs[1]?=some (.ref T)/\T≠e/\∃oT ts fl,h.get? T=some oT/\oT.data=.fields ts/\ts[3]?=some fl
structure Gone(fs:List Addr)(e:Addr)(oe:Obj)(T:Option Addr)(h h':Heap):Prop where
 keep:∀b o,b≠e->some b≠T->b ∉ fs->h.get? b=some o->h'.get? b=some o
 slot:∀b o,b≠e->some b≠T->h.get? b=some o->∃sl,h'.get? b=some { o with slots:=sl }
 exc:∃T',h'.get? e=some (oe.mapFields (·.setIfInBounds 1 (.ref T')))/\(h.objs.size<=T'\/T=some T')/\T'≠e/\∃oT ts fl,h'.get? T'=some oT/\oT.data=.fields ts/\ts[3]?=some fl
theorem zpc{oe:Obj}{vs:Array Value}{T:Addr}(hd:oe.data=.fields vs)(h1:vs[1]?=some (.ref T)):oe.mapFields (·.setIfInBounds 1 (.ref T))=oe:=by
 obtain⟨c,d,dt,sl⟩:=oe
 dsimp only at hd
 subst hd
 simp only[Obj.mapFields]
 rw[Array.setIfInBounds_same vs 1 _ h1]
section
variable{M:Model}{A:Around}{E:Value->Shared->Prop}{s:Shared}
theorem frameX{base:Heap}{env env₀:Env}{outer:List Env}{L:Addr}{Q:Value->Shared->Prop}(hfr:A.frames=some (env₀::outer))(hl:s.heap.FunFrames base (env₀::outer))(hf₀:env₀.frame=some L)(hf:env.frame=some L)(h:∀h',Heap.SlotsOnly (frm (env₀::outer)) s.heap h'->Q (.ref L) { s with heap:=h' }):wpAny M A (frameOf env) Q E s:=by
 have e:frameOf env=frameOf env₀:=by unfold frameOf;rw[hf,hf₀]
 rw[e]
 exact wpAny_frameOf_fun hfr hl hf₀ h
theorem qbv{base:Heap}{env env₀:Env}{outer:List Env}{L e:Addr}{oe:Obj}{vs:Array Value}{hd₀:Value}{nx:Bool}{Q:Unit->Shared->Prop}(hfr:A.frames=some (env₀::outer))(hl:s.heap.FunFrames base (env₀::outer))(hf₀:env₀.frame=some L)(hf:env.frame=some L)(he:s.heap.get? e=some oe)(hd:oe.data=.fields vs)(hsz:1<vs.size)(h:∀h',Gone (frm (env₀::outer)) e oe none s.heap h'->Q () { s with heap:=h' }) :
  wpAny M A (do let a <-frameOf env;let pl <-entryPlaceOf L nx;let b <-EntryCells.newEntry hd₀ a .none (rawInt L) .none pl;setField (.ref e) 1 b) Q E s:=by
 have ne:e ∉ frm (env₀::outer):=λhm=>by
  obtain⟨_,o,ho,q⟩:=hl.mem hm
  rw[he]at ho;cases ho;exact q vs hd
 refine wpAny_bind (frameX hfr hl hf₀ hf λg hg=>wpAny_bind (wpAny_entryPlaceOf λpl hpl=>?_))
 unfold EntryCells.newEntry newFields
 refine wpAny_bind (wpAny_newObj_type ?_ (hpl.sizeOk5 _ _ _ _ _))
 generalize hR:([hd₀,Value.ref L,.none,rawInt L,.none]++(if pl.isEmpty then qem 6 Value.none else pl)).toArray=rs
 have h3:3<rs.size:=by
  rw[<-hR];simp only[qet,qee,qeg,qe8];lia
 have e1:g.get? e=some oe:=(hg.2.1 e ne).trans he
 have e2:(g.push { cls:=.type "traceback",dict:=none,data:=.fields rs }).get? e=some oe:=Heap.get?_push_of_some _ e1
 refine wpAny_setField e2 hd hsz (h _ ?_)
 have hTe:g.objs.size≠e:=qgp (Heap.lt_size e1)
 have d3:=Obj.data_mapFields hd (·.setIfInBounds 1 (Value.ref g.objs.size))
 have e3:=Heap.get?_update_self (Obj.mapFields (·.setIfInBounds 1 (Value.ref g.objs.size))) e2 (Obj.isFreed_of_fields d3)
 have t3:((g.push { cls:=.type "traceback",dict:=none,data:=.fields rs }).update e (Obj.mapFields (·.setIfInBounds 1 (Value.ref g.objs.size)))).get? g.objs.size=some { cls:=.type "traceback",dict:=none,data:=.fields rs }:=
  (Heap.get?_update_other _ _ (Ne.symm hTe)).trans (Heap.get?_push_size g rfl)
 have kp:∀b o,b≠e->g.get? b=some o->((g.push { cls:=.type "traceback",dict:=none,data:=.fields rs }).update e (Obj.mapFields (·.setIfInBounds 1 (Value.ref g.objs.size)))).get? b=some o:=λb o hb q=>by
  rw[Heap.get?_update_other _ _ (Ne.symm hb)]
  exact Heap.get?_push_of_some _ q
 refine⟨λb o hb _ hbf q=>kp b o hb ((hg.2.1 b hbf).trans q),λb o hb _ q=>?_,g.objs.size,e3,.inl ?_,hTe,_,rs,rs[3],t3,rfl,by simp[h3]⟩
 ·obtain⟨sl,q'⟩:=hg.2.2 b o q
  exact⟨sl,kp b _ hb q'⟩
 ·rw[hg.1];exact qek _
theorem Gone.step{fs:List Addr}{e T:Addr}{oe:Obj}{h h₁ h':Heap}(hz:h.objs.size<=h₁.objs.size)(k:∀b,b≠T->h₁.get? b=h.get? b)(g:Gone fs e oe none h₁ h'):Gone fs e oe (some T) h h':=by
 refine⟨λb o hb hT hf q=>g.keep b o hb (by simp) hf ((k b λz=>hT (by rw[z])).trans q),λb o hb hT q=>g.slot b o hb (by simp) ((k b λz=>hT (by rw[z])).trans q),?_⟩
 obtain⟨T',a,b,c,d⟩:=g.exc
 refine⟨T',a,?_,c,d⟩
 rcases b with b|b
 ·exact .inl (qfq hz b)
 ·cases b
theorem noteX{base:Heap}{env env₀:Env}{outer:List Env}{L e:Addr}{oe:Obj}{vs:Array Value}{T:Option Addr}{Q:Unit->Shared->Prop}(hfr:A.frames=some (env₀::outer))(hl:s.heap.FunFrames base (env₀::outer))(hf₀:env₀.frame=some L)(hf:env.frame=some L)(he:s.heap.get? e=some oe)(hd:oe.data=.fields vs)(tr:Trc s.heap e vs T)(h:∀h',Gone (frm (env₀::outer)) e oe T s.heap h'->Q () { s with heap:=h' }):wpAny M A (noteFrame (.ref e) env) Q E s:=by
 unfold noteFrame
 simp only[hf]
 cases T with
 |none=>
  have h1:vs[1]?=some .none:=tr
  refine wpAny_bind (wpAny_field he hd h1 ?_)
  rw[if_neg (by decide)]
  exact qbv hfr hl hf₀ hf he hd (qf5.mp h1).1 h
 |some T=>
  obtain⟨h1,hTe,oT,ts,fl,hT,hdT,h3⟩:=tr
  refine wpAny_bind (wpAny_field he hd h1 ?_)
  rw[if_pos (show (Value.ref T != Value.none)=true from by simp)]
  refine wpAny_bind (wpAny_field hT hdT h3 ?_)
  by_cases hfl:(fl == rawInt L)=true
  ·rw[if_pos hfl]
   refine wpAny_pure (h s.heap ⟨λb o _ _ _ q=>q,λb o _ _ q=>⟨o.slots,q⟩,T,by rw[zpc hd h1];exact he,.inr rfl,hTe,oT,ts,fl,hT,hdT,h3⟩)
  ·rw[if_neg hfl]
   refine wpAny_bind (wpAny_setField hT hdT (qf5.mp h3).1 ?_)
   have oth:∀b,b≠T->(s.heap.update T (Obj.mapFields (·.setIfInBounds 3 Value.none))).get? b=s.heap.get? b:=λb hb=>Heap.get?_update_other _ _ (Ne.symm hb)
   refine qbv (s:={ s with heap:=s.heap.update T (Obj.mapFields (·.setIfInBounds 3 Value.none)) }) hfr (hl.of_keeps λb o hb hnf=>⟨o,(oth b λq=>?_).trans hb,rfl⟩) hf₀ hf ((oth e (Ne.symm hTe)).trans he) hd (qf5.mp h1).1
    λh' g=>h h' (Gone.step (qg5 (Heap.size_update _ _ _).symm) oth g)
   subst q;rw[hT]at hb;cases hb;exact hnf ts hdT
theorem qdz{e:Addr}{oe:Obj}{vs:Array Value}{T:Addr}{f:Option Addr}{Q:Unit->Shared->Prop}{fs:List Addr}(he:s.heap.get? e=some oe)(hd:oe.data=.fields vs)(tr:Trc s.heap e vs (some T))(h:∀h',Gone fs e oe (some T) s.heap h'->Q () { s with heap:=h' }):wpAny M A (setFlight (.ref e) f) Q E s:=by
 obtain⟨h1,hTe,oT,ts,fl,hT,hdT,h3⟩:=tr
 have hsz:=(qf5.mp h3).1
 unfold setFlight
 refine wpAny_bind (wpAny_field he hd h1 ?_)
 rw[if_pos (show (Value.ref T != Value.none)=true from by simp)]
 refine wpAny_setField hT hdT hsz (h _ ?_)
 have oth:∀b,b≠T->(s.heap.update T (Obj.mapFields (·.setIfInBounds 3 (f.elim Value.none λf=>rawInt f)))).get? b=s.heap.get? b:=λb hb=>Heap.get?_update_other _ _ (Ne.symm hb)
 refine⟨λb o _ hT' _ q=>(oth b λz=>hT' (by rw[z])).trans q,λb o _ hT' q=>⟨o.slots,(oth b λz=>hT' (by rw[z])).trans q⟩,T,?_,.inr rfl,hTe,_,_,f.elim Value.none (λf=>rawInt f),Heap.get?_update_self _ hT (Obj.isFreed_of_fields (Obj.data_mapFields hdT _)),Obj.data_mapFields hdT _,?_⟩
 ·rw[zpc hd h1];exact (oth e (Ne.symm hTe)).trans he
 ·simp[hsz]
end
def bmE:List Value:=[.type "Exception",.type "BaseException",.type "object"]
abbrev zlo(C t:Addr):Obj:={ cls:=.ref C,data:=.fields #[.ref t,.none,.none,.none,.bool false,.none] }
def Finds(M:Model)(h:Heap)(C:Addr)(x:Str)(r:Option Value):Prop:=∀(A:Around)(Q:Option Value->Shared->Prop)(E:Value->Shared->Prop)(s:Shared),(∀b o,h.get? b=some o->s.heap.get? b=some o)->Q r s->wpAny M A (typeLookup (.ref C) x) Q E s
section
variable{prog:Program}{w:World}{A:Around}{E:Value->Shared->Prop}{h:Heap}{g:Array GenState}{d:Drawn}{t:Nat}{os:OsState}
variable{nm q:Str}{C R N:Addr}{bs:List Value}{sn:List Str}{sub:List Value}{ab:Bool}{col:Option Bool}{dd:Option Addr}{k0 k1 k2 k3 k5:Option Value}
abbrev clsX(nm q:Str)(C R N:Addr)(bs:List Value)(sn:List Str)(sub:List Value)(ab:Bool)(col:Option Bool)(dd:Option Addr)(k0 k1 k2 k3 k5:Option Value):Obj:=
 excClassObj nm q C N bs (.ref R::bmE) true sn sub ab col dd k0 k1 k2 k3 k5 "Exception.__new__"
theorem zrj{C R:Addr}{X:String}(hx:bmE.contains (.type X)=true):(Value.ref C::.ref R::bmE).contains (.type X)=true:=by
 rw[qfv,qfv,hx];simp
theorem zpl{C R:Addr}{X:String}(hx:bmE.contains (.type X)=false):(Value.ref C::.ref R::bmE).contains (.type X)=false:=by
 rw[qfv,qfv,hx];rfl
theorem zu5{M:Model}{rest:List Value}{Q:Unit->Shared->Prop}(hC:h.get? C=some (clsX nm q C R N bs sn sub ab col dd k0 k1 k2 k3 k5))(hq:Q () ⟨h,g,d,t,os⟩) :
  wpAny M A (checkBuiltinCall "Exception.__new__" ⟨.ref C::rest,[]⟩) Q E ⟨h,g,d,t,os⟩:=by
 have F:=qhe
 have hc:(Value.ref C::.ref R::bmE).contains (.type "Exception")=true:=zrj (by decide)
 have hst:=F.noStar
 simp only[checkBuiltinCall,F.newKind,F.newSplit,F.newRow]
 repeat (first
  |refine wpAny_loadPart_at hC ?_
  |(refine wpAny_isSubtype_exc hC ?_;rw[hc])
  |refine wpAny_staticBase_exc hC ?_
  |refine wpAny_madeBy_exc hC ?_
  |simp only[bne_self_eq_false,qe0,if_false]
  |wp_step)
 exact hq
theorem newX{Rr:Result->Shared->Prop}{rest:List Value}(hC:h.get? C=some (clsX nm q C R N bs sn sub ab col dd k0 k1 k2 k3 k5))(hz:rest.length<=sizeLine)(hq:Rr (.ok (.ret (.ref (h.objs.size+1)))) ⟨(h.push { cls:=.type "tuple",data:=.seq rest.toArray }).push (zlo C h.objs.size),g,d,t,os⟩) :
  codeAny (model prog w) A (.builtin "Exception.__new__" ⟨.ref C::rest,[]⟩) Rr ⟨h,g,d,t,os⟩:=by
 have F:=qhe
 have hends:=F.ends
 have c1:(Value.ref C::.ref R::bmE).contains (.type "Exception")=true:=zrj (by decide)
 have c2:(Value.ref C::.ref R::bmE).contains (.type "AttributeError")=false:=zpl (by decide)
 have c3:(Value.ref C::.ref R::bmE).contains (.type "NameError")=false:=zpl (by decide)
 refine codeAny_builtinAt F.entry ?_
 unfold Builtin.«BaseException.__new__»
 refine wpAt_bind ?_
 show wpAt _ _ _ (stack >>= _) _ _ _
 refine wpAt_bind (wpAt_stack λp below=>wpAt_of_wpAny ?_)
 wp_walk
 refine wpAt_of_wpAny ?_
 rw[F.owner]
 repeat (first
  |with_reducible refine wpAny_madeHere_exc F.canon hC ?_
  |with_reducible refine wpAny_loadPart_at hC ?_
  |(with_reducible refine wpAny_isSubtype_exc hC ?_;first|rw[c1]|rw[c2]|rw[c3])
  |wp_step)
 show Rr _ _
 rw[Heap.size_push]
 exact hq
theorem ztw{rest:List Value}{fI:Addr}{oI:Obj}{Q:Fin->Shared->Prop}(hC:h.get? C=some (clsX nm q C R N bs sn sub ab col dd k0 k1 k2 k3 k5))(hi:Finds (model prog w) h C "__init__" (some (.ref fI)))(hf:h.get? fI=some oI)(hfc:oI.cls=.type "function")(hz:rest.length<=sizeLine)(hq:wpAny (model prog w) A (call (.ref fI) (.ref (h.objs.size+1)::rest)) (λr s'=>r=.none/\Q (.done (.ret (.ref (h.objs.size+1)))) s') E
   ⟨(h.push { cls:=.type "tuple",data:=.seq rest.toArray }).push (zlo C h.objs.size),g,d,t,os⟩) :
  wpAny (model prog w) A (Builtin.«type.__call__» ⟨.ref C::rest,[]⟩) Q E ⟨h,g,d,t,os⟩:=by
 have F:=qhe
 repeat (first|with_reducible refine wpAny_loadPart_at hC ?_|with_reducible refine wpAny_madeBy_exc hC ?_|wp_step)
 refine codeAny_call_builtin_code (Code.quiet_builtin _ F.quiet) (zu5 hC (newX hC hz ?_))
 show wpAny _ _ _ _ _ _
 have up:∀b o,h.get? b=some o->((h.push { cls:=.type "tuple",data:=.seq rest.toArray }).push (zlo C h.objs.size)).get? b=some o:=λb o e=>Heap.get?_push_of_some _ (Heap.get?_push_of_some _ e)
 have hget:((h.push { cls:=.type "tuple",data:=.seq rest.toArray }).push (zlo C h.objs.size)).get? (h.objs.size+1)=some (zlo C h.objs.size):=by
  have:=Heap.get?_push_size (h.push { cls:=.type "tuple",data:=.seq rest.toArray }) (o:=zlo C h.objs.size) rfl
  rwa [Heap.size_push]at this
 have hcC:(Value.ref C::.ref R::bmE).contains (.ref C)=true:=by simp
 unfold isInstance
 repeat (first|with_reducible refine wpAny_loadPart_at hget ?_|(with_reducible refine wpAny_isSubtype_exc (up _ _ hC) ?_;rw[hcC])|wp_step)
 show wpAny _ _ (typeLookup (.ref C) _) _ _ _
 refine hi _ _ _ _ up (wpAny_holding (wpAny_bind ?_))
 unfold bindSpecial
 refine wpAny_bind (wpAny_typeOf (T:="function") ⟨_,up _ _ hf,hfc⟩ ?_)
 rw[if_pos (by decide)]
 refine wpAny_pure (wpAny_bind (wpAny_mono hq (λr s' hr=>?_) λ_ _ x=>x))
 obtain⟨rfl,hQ⟩:=hr
 wp_walk
 exact hQ
theorem callX{rest:List Value}{fI:Addr}{oI:Obj}{Q:Value->Shared->Prop}(hC:h.get? C=some (clsX nm q C R N bs sn sub ab col dd k0 k1 k2 k3 k5))(hi:Finds (model prog w) h C "__init__" (some (.ref fI)))(hf:h.get? fI=some oI)(hfc:oI.cls=.type "function")(hz:rest.length<=sizeLine)(hq:wpAny (model prog w) (A.under (.builtin "type.__call__" ⟨.ref C::rest,[]⟩)) (call (.ref fI) (.ref (h.objs.size+1)::rest)) (λr s'=>r=.none/\Q (.ref (h.objs.size+1)) s') E
   ⟨(h.push { cls:=.type "tuple",data:=.seq rest.toArray }).push (zlo C h.objs.size),g,d,t,os⟩) :
  wpAny (model prog w) A (call (.ref C) rest) Q E ⟨h,g,d,t,os⟩:=by
 have f1:=tc_lookup
 have f2:=tc_bind (.ref C)
 have hT:(⟨h,g,d,t,os⟩:Shared).TypeIs (.ref C) "type":=⟨_,hC,rfl⟩
 refine wpAny_call (codeAny_of_tree ?_)
 show wpAny _ _ (callAny (.ref C) _) _ _ _
 repeat (any_goals (first|assumption|with_reducible refine wpAny_loadPart_at hC ?_|wp_step))
 refine⟨rfl,?_⟩
 refine codeAny_call_builtin_at (Code.quiet_builtin _ (by decide +kernel)) entry_typeCall (wpAny_check_type_call_sub hC (ztw hC hi hf hfc hz ?_))
 exact hq
theorem zzx{env:Env}{M:Model}{s:Shared}{x:Sem Value}{Q:Flow->Shared->Prop}(hh:A.handled=none)(hx:wpAny M A x (λv s₁=>∃e oe,v=.ref e/\s₁.heap.get? C=some (clsX nm q C R N bs sn sub ab col dd k0 k1 k2 k3 k5)/\s₁.heap.get? e=some oe/\oe.cls=.ref C ∧
   (∃t,oe.data=.fields #[.ref t,.none,.none,.none,.bool false,.none])/\E (.ref e) s₁) E s):wpAny M A (raiseStmt env (some x) none) Q E s:=by
 have hcB:(Value.ref C::.ref R::bmE).contains (.type "BaseException")=true:=zrj (by decide)
 unfold raiseStmt
 refine wpAny_bind (wpAny_mono hx (λv s₁ h₁=>?_) λ_ _ x=>x)
 obtain⟨e,⟨oc,odi,oda,osl⟩,rfl,hC,he,hc,⟨t0,hd⟩,hE⟩:=h₁
 dsimp only at hc hd
 subst hc hd
 obtain⟨hp,g,d,tk,os⟩:=s₁
 repeat (first|with_reducible refine wpAny_loadPart_at he ?_|with_reducible refine wpAny_loadPart_at hC ?_|(with_reducible refine wpAny_isSubtype_exc hC ?_;rw[hcB])|wp_step)
 exact wpAny_raiseNew_none hh hE
end
end L3
namespace L2
open PySem PySem.Spec PyProof.Rows
abbrev Key:=Sum Int Str
def znu:Key->Value->Bool
 |.inl k,v=>Value.isInt k v
 |.inr x,v=>Value.isStrOf x v
def keyH(w:World):Key->Int
 |.inl k=>hashInt k
 |.inr x=>hashStr w x
theorem zbp:∀{k:Key}{v:Value},znu k v=true->(∃i t,k=Sum.inl i/\v=Value.int i t)\/(∃x t,k=Sum.inr x/\v=Value.str x t)
 |.inl i,v,h=>by
  obtain⟨t,e⟩:=Value.isInt_shape (k:=i) (v:=v) h
  exact .inl ⟨i,t,rfl,e⟩
 |.inr x,v,h=>by
  obtain⟨t,e⟩:=Value.isStrOf_shape (x:=x) (v:=v) h
  exact .inr ⟨x,t,rfl,e⟩
theorem zxy(i:Int)(t:Tok):znu (.inl i) (.int i t)=true:=by simp[znu,Value.isInt]
theorem zxx(x:Str)(t:Tok):znu (.inr x) (.str x t)=true:=by simp[znu,Value.isStrOf]
theorem key_ll(a b:Int):decide ((Sum.inl a:Key)=Sum.inl b)=(a == b):=by
 by_cases e:a=b
 ·subst e;simp
 ·have h:¬(Sum.inl a:Key)=Sum.inl b:=λq=>e (Sum.inl.inj q)
  rw[decide_eq_false h]
  exact (beq_eq_false_iff_ne.mpr e).symm
theorem key_rr(a b:Str):decide ((Sum.inr a:Key)=Sum.inr b)=decide (a=b):=by
 by_cases e:a=b
 ·subst e;simp
 ·have h:¬(Sum.inr a:Key)=Sum.inr b:=λq=>e (Sum.inr.inj q)
  rw[decide_eq_false h,decide_eq_false e]
theorem key_lr(a:Int)(b:Str):decide ((Sum.inl a:Key)=Sum.inr b)=false:=decide_eq_false (λq=>nomatch q)
theorem key_rl(a:Str)(b:Int):decide ((Sum.inr a:Key)=Sum.inl b)=false:=decide_eq_false (λq=>nomatch q)
def zbg(prog:Program)(w:World):PySem.KeyKind prog w Key where
 is:=znu
 hash:=keyH w
 inj:=λv a b ha hb=>by
  rcases zbp ha with ⟨i,t,rfl,rfl⟩|⟨x,t,rfl,rfl⟩
  ·rcases zbp hb with ⟨j,u,rfl,e⟩|⟨y,u,rfl,e⟩
   ·injection e with e1 _;rw[e1]
   ·exact nomatch e
  ·rcases zbp hb with ⟨j,u,rfl,e⟩|⟨y,u,rfl,e⟩
   ·exact nomatch e
   ·injection e with e1 _;rw[e1]
 byValue:=λk v h=>by
  rcases zbp h with ⟨i,t,rfl,rfl⟩|⟨x,t,rfl,rfl⟩ <;> rfl
 pyHash:=λhv h=>by
  rcases zbp hv with ⟨i,t,rfl,rfl⟩|⟨x,t,rfl,rfl⟩
  ·exact wpAny_pyHash_int h
  ·exact wpAny_pyHash_str h
 eqBool:=λhu hv h=>by
  rcases zbp hu with ⟨i,t,rfl,rfl⟩|⟨x,t,rfl,rfl⟩
  ·rcases zbp hv with ⟨j,u,rfl,rfl⟩|⟨y,u,rfl,rfl⟩
   ·rw[key_ll]at h;exact wpAny_eqBool_int h
   ·rw[key_lr]at h;exact SeqAt.EqAt.int_str i t y u _ _ _ _ h
  ·rcases zbp hv with ⟨j,u,rfl,rfl⟩|⟨y,u,rfl,rfl⟩
   ·rw[key_rl]at h;exact SeqAt.EqAt.str_int x t j u _ _ _ _ h
   ·rw[key_rr]at h;exact wpAny_eqBool_str h
 «strs»:=λk x t v h=>by
  rcases zbp h with ⟨i,u,rfl,e⟩|⟨y,u,rfl,e⟩
  ·exact nomatch e
  ·injection e with e1 _
   subst e1
   cases v <;> rfl
theorem zrd(prog:Program)(w:World)(i:Int)(t:Tok):(zbg prog w).is (.inl i) (.int i t)=true:=zxy i t
theorem zrc(prog:Program)(w:World)(x:Str)(t:Tok):(zbg prog w).is (.inr x) (.str x t)=true:=zxx x t
inductive V where
 |non|bl (b:Bool)|int (i:Int)|str (x:Str)|byt (b:Array UInt8)|flt (b:UInt64)|ref (a:Addr)|ty (n:String)
 deriving DecidableEq
def RelV:V->Value->Prop
 |.non,u=>u=Value.none
 |.bl b,u=>u=Value.bool b
 |.int i,u=>∃t,u=Value.int i t
 |.str x,u=>∃t,u=Value.str x t
 |.byt b,u=>∃t,u=Value.bytes b t
 |.flt b,u=>∃t,u=Value.float b t
 |.ref a,u=>u=Value.ref a
 |.ty n,u=>u=Value.type n
abbrev Vals:List V->List Value->Prop:=Paired RelV
theorem Vals.length{xs:List V}{us:List Value}(r:Vals xs us):xs.length=us.length:=Paired.length r
theorem Vals.get:∀{xs:List V}{us:List Value}{i:Nat}{x:V},Vals xs us->xs[i]?=some x->∃u,us[i]?=some u/\RelV x u
 |_,_,_,_,.nil,e=>by simp at e
 |_,_,0,_,.cons r _,e=>by simp at e;subst e;exact⟨_,rfl,r⟩
 |_,_,i+1,x,.cons _ t,e=>by
  obtain⟨u,h1,h2⟩:=Vals.get (i:=i) (x:=x) t (by simpa using e)
  exact⟨u,by simpa using h1,h2⟩
theorem Vals.set{x:V}{u:Value}(r:RelV x u):∀{xs:List V}{us:List Value}(i:Nat),Vals xs us->Vals (xs.set i x) (us.set i u)
 |_,_,_,.nil=>.nil
 |_,_,0,.cons _ t=>.cons r t
 |_,_,i+1,.cons q t=>.cons q (Vals.set r i t)
theorem Vals.append:∀{xs ys:List V}{us ws:List Value},Vals xs us->Vals ys ws->Vals (xs++ys) (us++ws)
 |_,_,_,_,.nil,s=>s
 |_,_,_,_,.cons r t,s=>.cons r (Vals.append t s)
theorem Vals.take:∀{xs:List V}{us:List Value}(n:Nat),Vals xs us->Vals (xs.take n) (us.take n)
 |_,_,0,_=>.nil
 |_,_,_+1,.nil=>.nil
 |_,_,n+1,.cons r t=>.cons r (Vals.take n t)
theorem Vals.drop:∀{xs:List V}{us:List Value}(n:Nat),Vals xs us->Vals (xs.drop n) (us.drop n)
 |_,_,0,r=>r
 |_,_,_+1,.nil=>.nil
 |_,_,n+1,.cons _ t=>Vals.drop n t
def RelO:Option V->Option Value->Prop
 |some v,some u=>RelV v u
 |none,none=>True
 |_,_=>False
def KV{κ:Type}:List (κ×V)->List (κ×Value)->Prop:=Paired λ(p:κ×V)(q:κ×Value)=>p.1=q.1/\RelV p.2 q.2
def kV:Key->V
 |.inl i=>.int i
 |.inr x=>.str x
inductive HO where
 |lst (xs:List V)
 |tup (xs:List V)
 |dK (kvs:List (Key×V))|dT (kvs:List (List Key×V))
 |set (S:Int->Bool) (n:Nat)
 |ins (C dx:Addr) (fs:List (Str×V))
 |own (x:Addr)
 |xd (fs:List (Str×V))
 |met (f x:Addr)
 |rng (lo hi:Int)
 |frz (o:Obj) (u:HO)
 |tbl (ps:Array Value)
 |ext (φ:Heap->Prop)
abbrev Hp:=Addr->Option HO
def upd(H:Hp)(a:Addr)(o:HO):Hp:=λb=>if b=a then some o else H b
theorem zad{H:Hp}{a:Addr}{o:HO}:upd H a o a=some o:=by unfold upd;rw[if_pos rfl]
theorem zah{H:Hp}{a b:Addr}{o:HO}(h:b≠a):upd H a o b=H b:=by unfold upd;rw[if_neg h]
theorem zf6{H:Hp}{a b:Addr}{o u:HO}(h:H a=some o)(h':H b=some u)(d:o≠u):a≠b:=by
 intro e;subst e;rw[h]at h';exact d (qen.inj h')
theorem zai{H:Hp}{a b:Addr}{o:HO}(h:H a=some o)(h':H b=none):a≠b:=by
 intro e;subst e;rw[h]at h';cases h'
section
variable(P:Program)(w:World)
def ObjOk(H:Hp)(h:Heap)(a:Addr):HO->Prop
 |.lst xs=>xs.length<=sizeLine/\∃(its:List Value)(n:Nat),Vals xs its/\h.get? a=some { cls:=.type "list",data:=.seq its.toArray n }
 |.tup xs=>xs.length<=sizeLine/\∃its:List Value,Vals xs its/\IsTup h a its.toArray
 |.dK kvs=>kvs.length<=sizeLine/\(a == sysModules)=false/\∃vs,KV kvs vs/\h.DictOf (zbg P w) a vs
 |.dT kvs=>kvs.length<=sizeLine/\(a == sysModules)=false/\∃xs:List (List Key×Addr×Value),
   Paired (λ(p:List Key×V)(q:List Key×Addr×Value)=>p.1=q.1/\H q.2.1=some (.tup (p.1.map kV))/\RelV p.2 q.2.2) kvs xs ∧
   ∃o es ep,h.get? a=some o/\o.ExactDict/\o.data=.dict es ep/\es.toList=xs.map (entryOfKey (tupleKind (zbg P w)))/\(xs.map (·.1)).Nodup
 |.set S n=>h.SetOf (intKind P w) a S n
 |.ins C dx fs=>H dx=some (.own a)/\fs.length<=1000/\dx≠a/\h.get? a=some (qgq C dx) ∧
   ∃mA,h.Ns1 dx mA/\(∀f,RelO (fs.lookup f) (mA f))/\PySem.Within mA (fs.map (·.1))
 |.own _=>∃o,h.get? a=some o
 |.xd fs=>∃mA,h.Ns1 a mA/\∀f,RelO (fs.lookup f) (mA f)
 |.rng lo hi=>∃t u v,h.get? a=some { cls:=.type "range",data:=.fields #[.int lo t,.int hi u,.int 1 v] }
 |.frz o u=>h.get? a=some o/\ObjOk H h a u
 |.tbl ps=>h.get? a=some { cls:=.none,data:=.fields ps }
 |.met f x=>h.get? a=some (qio (.ref f) (.ref x))
 |.ext φ=>φ h/\(∃o,h.get? a=some o)/\∀h1 h2:Heap,φ h1->(∀o,h1.get? a=some o->h2.get? a=some o)->φ h2
def HOk(H:Hp)(h:Heap):Prop:=∀a o,H a=some o->ObjOk P w H h a o
end
section
variable{P:Program}{w:World}{H H':Hp}{h h':Heap}{a:Addr}{o:HO}
theorem ObjOk.lt(x:ObjOk P w H h a o):a<h.objs.size:=by
 cases o with
 |lst xs=>obtain⟨_,_,_,_,e⟩:=x;exact Heap.lt_size e
 |tup xs=>obtain⟨_,_,_,p⟩:=x;exact p.lt
 |dK kvs=>obtain⟨_,_,_,_,o,_,_,e,_⟩:=x;exact Heap.lt_size e
 |dT kvs=>obtain⟨_,_,_,_,o,_,_,e,_⟩:=x;exact Heap.lt_size e
 |set S n=>obtain⟨o,_,_,_,e,_⟩:=x;exact Heap.lt_size e
 |ins C dx fs=>obtain⟨_,_,_,e,_⟩:=x;exact Heap.lt_size e
 |own y=>obtain⟨_,e⟩:=x;exact Heap.lt_size e
 |xd fs=>obtain⟨_,⟨_,_,_,e,_⟩,_⟩:=x;exact Heap.lt_size e
 |rng lo hi=>obtain⟨_,_,_,e⟩:=x;exact Heap.lt_size e
 |frz ob u=>obtain⟨e,_⟩:=x;exact Heap.lt_size e
 |tbl ps=>exact Heap.lt_size (show h.get? a=some _ from x)
 |met f y=>exact Heap.lt_size (show h.get? a=some _ from x)
 |ext φ=>obtain⟨_,⟨_,e⟩,_⟩:=x;exact Heap.lt_size e
theorem Paired.mapP{α β:Type}{F G:α->β->Prop}:∀{l₁:List α}{l₂:List β},Paired F l₁ l₂->(∀a b,F a b->G a b)->Paired G l₁ l₂
 |_,_,.nil,_=>.nil
 |_,_,.cons r t,f=>.cons (f _ _ r) (Paired.mapP t f)
theorem ObjOk.stay(x:ObjOk P w H h a o)(k:∀b u,(b=a\/H b=some (.own a))->h.get? b=some u->h'.get? b=some u)(ho:∀b,H b=some (.own a)->H' b=some (.own a))(ht:∀b xs,H b=some (.tup xs)->H' b=some (.tup xs)):ObjOk P w H' h' a o:=by
 induction o with
 |lst xs=>obtain⟨z,its,n,r,e⟩:=x;exact⟨z,its,n,r,k _ _ (.inl rfl) e⟩
 |tup xs=>obtain⟨z,its,r,ob,e,c⟩:=x;exact⟨z,its,r,ob,k _ _ (.inl rfl) e,c⟩
 |dK kvs=>obtain⟨z,y,vs,r,ob,es,ep,e,c⟩:=x;exact⟨z,y,vs,r,ob,es,ep,k _ _ (.inl rfl) e,c⟩
 |dT kvs=>
  obtain⟨z,y,xs,r,ob,es,ep,e,c⟩:=x
  exact⟨z,y,xs,Paired.mapP r λp q z=>⟨z.1,ht _ _ z.2.1,z.2.2⟩,ob,es,ep,k _ _ (.inl rfl) e,c⟩
 |set S n=>obtain⟨ob,es,ep,t,e,c⟩:=x;exact⟨ob,es,ep,t,k _ _ (.inl rfl) e,c⟩
 |ins C dx fs=>
  obtain⟨d,z,ne,e,mA,⟨od,es,ep,e2,c⟩,r⟩:=x
  exact⟨ho _ d,z,ne,k _ _ (.inl rfl) e,mA,⟨od,es,ep,k _ _ (.inr d) e2,c⟩,r⟩
 |own y=>obtain⟨ob,e⟩:=x;exact⟨ob,k _ _ (.inl rfl) e⟩
 |xd fs=>obtain⟨mA,⟨od,es,ep,e,c⟩,r⟩:=x;exact⟨mA,⟨od,es,ep,k _ _ (.inl rfl) e,c⟩,r⟩
 |rng lo hi=>obtain⟨t,u,v,e⟩:=x;exact⟨t,u,v,k _ _ (.inl rfl) e⟩
 |frz ob u ih=>obtain⟨e,q⟩:=x;exact⟨k _ _ (.inl rfl) e,ih q⟩
 |tbl ps=>
  have e:h.get? a=some { cls:=.none,data:=.fields ps }:=x
  show h'.get? a=some { cls:=.none,data:=.fields ps }
  exact k a _ (.inl rfl) e
 |met f y=>
  have e:h.get? a=some (qio (.ref f) (.ref y)):=x
  show h'.get? a=some (qio (.ref f) (.ref y))
  exact k a _ (.inl rfl) e
 |ext φ=>obtain⟨p,⟨o,e⟩,st⟩:=x;exact⟨st _ _ p λo q=>k _ _ (.inl rfl) q,⟨o,k _ _ (.inl rfl) e⟩,st⟩
theorem HOk.lt(x:HOk P w H h)(e:H a=some o):a<h.objs.size:=(x a o e).lt
theorem HOk.fresh(x:HOk P w H h)(e:h.objs.size<=a):H a=none:=by
 cases q:H a with
 |none=>rfl
 |some u=>exact absurd (qep (x.lt q) e) (qgi _)
theorem HOk.kept(x:HOk P w H h)(k:∀b u,h.get? b=some u->h'.get? b=some u):HOk P w H h':=λa o e=>
 (x a o e).stay (λb u _ q=>k b u q) (λ_ q=>q) λ_ _ q=>q
theorem HOk.laid(x:HOk P w H h)(k:∀b u,h.get? b=some u->h'.get? b=some u)(hp:h.objs.size<=a)(new:ObjOk P w (upd H a o) h' a o):HOk P w (upd H a o) h':=λb u e=>by
 have hn:=x.fresh hp
 by_cases hb:b=a
 ·subst hb;rw[zad]at e;cases e;exact new
 ·rw[zah hb]at e
  exact (x b u e).stay (λc v _ q=>k c v q) (λc q=>by rw[zah (zai q hn)];exact q) λc xs q=>by rw[zah (zai q hn)];exact q
end
def Rd(H:Hp)(a:Addr)(u:HO):Prop:=H a=some u\/∃o,H a=some (.frz o u)
theorem Rd.ok{P:Program}{w:World}{H:Hp}{h:Heap}{a:Addr}{u:HO}(r:Rd H a u)(x:HOk P w H h):ObjOk P w H h a u:=by
 rcases r with r|⟨o,r⟩
 ·exact x a u r
 ·obtain⟨_,q⟩:=x a _ r
  exact q
def Mut:Option HO->Prop
 |some (.lst _)=>True
 |some (.dK _)=>True
 |some (.dT _)=>True
 |some (.set _ _)=>True
 |some (.ins _ _ _)=>True
 |some (.ext _)=>True
 |_=>False
section
variable{P:Program}{w:World}{H:Hp}{h h':Heap}{x e:Addr}{o':HO}
theorem HOk.write(ok:HOk P w H h)(mu:Mut (H x))(he:e=x\/H e=some (.own x))(k:∀b u,b≠e->h.get? b=some u->h'.get? b=some u)(heo:∃u,h'.get? e=some u)(new:ObjOk P w (upd H x o') h' x o'):HOk P w (upd H x o') h':=λb u q=>by
 have nown:∀c y,H c=some (.own y)->c≠x:=λc y r z=>by subst z;rw[r]at mu;exact mu
 have ntup:∀c xs,H c=some (.tup xs)->c≠x:=λc xs r z=>by subst z;rw[r]at mu;exact mu
 by_cases hb:b=x
 ·subst hb;rw[zad]at q;cases q;exact new
 ·rw[zah hb]at q
  by_cases hbe:b=e
  ·have q':H b=some (.own x):=by
    rcases he with z|z
    ·exact absurd (hbe.trans z) hb
    ·rw[hbe];exact z
   rw[q]at q';cases q'
   obtain⟨v,hv⟩:=heo
   exact⟨v,by rw[hbe];exact hv⟩
  ·refine (ok b u q).stay (λc v hc r=>k c v ?_ r) (λc r=>by rw[zah (nown c b r)];exact r) λc xs r=>by rw[zah (ntup c xs r)];exact r
   rcases hc with rfl|hc
   ·exact hbe
   ·rintro rfl
    rcases he with z|z
    ·exact nown c b hc z
    ·rw[hc]at z;cases z;exact hb rfl
end
structure Un(fs ex:List Addr)(H H':Hp)(h h':Heap):Prop where
 keep:∀b o,h.get? b=some o->H b=none->b ∉ fs->b ∉ ex->h'.get? b=some o
 slot:∀b o,h.get? b=some o->H b=none->b∈fs->b ∉ ex->∃sl,h'.get? b=some { o with slots:=sl }
 free:∀b o,h.get? b=some o->H b=none->b ∉ ex->H' b=none
 there:∀b o,h.get? b=some o->b ∉ ex->∃o',h'.get? b=some o'
 tups:∀b xs,H b=some (.tup xs)->H' b=some (.tup xs)
 frzs:∀b o u,H b=some (.frz o u)->H' b=some (.frz o u)
 tbls:∀b ps,H b=some (.tbl ps)->∃more,H' b=some (.tbl (ps++more))
section
variable{fs fs' ex ex':List Addr}{H H1 H2:Hp}{h h1 h2 h':Heap}{a x e:Addr}{o:HO}
theorem Un.any(u:Un fs ex H H1 h h1){b:Addr}{ob:Obj}(q:h.get? b=some ob)(n:H b=none)(hx:b ∉ ex):∃sl,h1.get? b=some { ob with slots:=sl }:=by
 by_cases hb:b∈fs
 ·exact u.slot b ob q n hb hx
 ·exact⟨ob.slots,u.keep b ob q n hb hx⟩
theorem Un.kept(k:∀b u,h.get? b=some u->h'.get? b=some u):Un fs ex H H h h':=
 ⟨λb ob q _ _ _=>k b ob q,λb ob q _ _ _=>⟨ob.slots,k b ob q⟩,λ_ _ _ n _=>n,λb ob q _=>⟨ob,k b ob q⟩,λ_ _ q=>q,λ_ _ _ q=>q,λ_ ps q=>⟨#[],by rw[q];simp⟩⟩
theorem Un.refl:Un fs ex H H h h:=Un.kept λ_ _ q=>q
theorem Un.laid(k:∀b u,h.get? b=some u->h'.get? b=some u)(hp:h.objs.size<=a)(hn:H a=none):Un fs ex H (upd H a o) h h' where
 keep:=λb u q _ _ _=>k b u q
 slot:=λb u q _ _ _=>⟨u.slots,k b u q⟩
 free:=λb u q n _=>by rw[zah (qe9 (qep (Heap.lt_size q) hp))];exact n
 there:=λb u q _=>⟨u,k b u q⟩
 tups:=λb xs q=>by rw[zah (zai q hn)];exact q
 frzs:=λb u xs q=>by rw[zah (zai q hn)];exact q
 tbls:=λb ps q=>⟨#[],by rw[zah (zai q hn),q];simp⟩
theorem Un.write(mu:Mut (H x))(he:e=x\/H e=some (.own x))(k:∀b u,b≠e->h.get? b=some u->h'.get? b=some u)(heo:∃u,h'.get? e=some u):Un fs ex H (upd H x o) h h':=by
 have hx:∀b,H b=none->b≠x:=λb n z=>by subst z;rw[n]at mu;exact mu
 have hb:∀b,H b=none->b≠e:=λb n z=>by
  subst z
  rcases he with r|r
  ·exact hx b n r
  ·rw[n]at r;cases r
 have hm:∀b u,H b=some u->¬Mut (some u)->b≠x:=λb u q nm z=>by subst z;rw[q]at mu;exact nm mu
 refine⟨λb u q n _ _=>k b u (hb b n) q,λb u q n _ _=>⟨u.slots,k b u (hb b n) q⟩,λb u q n _=>by rw[zah (hx b n)];exact n,λb u q _=>?_,
  λb xs q=>by rw[zah (hm b _ q λz=>z)];exact q,λb u xs q=>by rw[zah (hm b _ q λz=>z)];exact q,λb ps q=>⟨#[],by rw[zah (hm b _ q λz=>z),q];simp⟩⟩
 by_cases hbe:b=e
 ·subst hbe;exact heo
 ·exact⟨u,k b u hbe q⟩
end
def trk(h:Heap)(H:Hp):List Addr:=(qfk h.objs.size).filter λa=>(H a).isSome
def zy8(h:Heap)(H:Hp):Heap:=PySem.W.hideAll h (trk h H)
theorem zx5(h:Heap)(H:Hp):(zy8 h H).objs.size=h.objs.size:=PySem.W.hideAll_size _ _
theorem qa1{h:Heap}{H:Hp}{b:Addr}{o:Obj}(e:h.get? b=some o)(n:H b=none):(zy8 h H).get? b=some o:=
 PySem.W.hideAll_get _ e λhm=>by
  have q:(H b).isSome=true:=(qgb.mp hm).2
  rw[n]at q;simp at q
theorem qdp{h:Heap}{H:Hp}{b:Addr}{o:Obj}(e:(zy8 h H).get? b=some o):h.get? b=some o/\H b=none:=by
 have e':h.get? b=some o:=PySem.W.of_hideAll (trk h H) e
 refine⟨e',?_⟩
 cases q:H b with
 |none=>rfl
 |some x=>
  have hm:b∈trk h H:=qgb.mpr ⟨qgo.mpr (Heap.lt_size e'),by simp[q]⟩
  have z:(zy8 h H).get? b=none:=PySem.W.hideAll_none (trk h H) hm
  rw[z]at e;cases e
def zlb(g h:Heap)(L:Addr):List (Addr×Obj):=(qfk h.objs.size).filterMap λa=>if a=L\/(g.get? a).isSome=true then none else (h.get? a).map λo=>(a,o)
theorem zko{g h:Heap}{L a:Addr}{o:Obj}(h1:a≠L)(h2:g.get? a=none)(h3:h.get? a=some o):(a,o)∈zlb g h L:=
 qhu.mpr ⟨a,qgo.mpr (Heap.lt_size h3),by simp[h1,h2,h3]⟩
theorem zlu{g h:Heap}{L:Addr}{p:Addr×Obj}(hp:p∈zlb g h L):p.1≠L/\g.get? p.1=none/\h.get? p.1=some p.2:=by
 obtain⟨b,_,e⟩:=qhu.mp hp
 split at e
 ·cases e
 ·rename_i hn
  cases q:h.get? b with
  |none=>rw[q]at e;simp at e
  |some u=>
   rw[q]at e
   simp only[qez,qen.injEq]at e
   subst e
   refine⟨λz=>hn (.inl z),?_,q⟩
   show g.get? b=none
   cases r:g.get? b with
   |none=>rfl
   |some v=>exact (hn (.inr (by simp[r]))).elim
theorem qaq{g h:Heap}{L:Addr}:News g L h (zlb g h L):=λp hp=>let ⟨a,b,c⟩:=zlu hp;⟨c,a,b⟩
structure Mod(K:qed)(mg:Str->Option Value)(base:Heap):Prop where
 kin:K.In base
 glob:base.Ns mainGlobals mg
 blt:∃mb,base.Ns builtinsNs mb/\∀x:Str,x≠"__name__"->mb x=bootBuiltins x
 nolimit:base.NoLimit
structure Cx where
 prog:Program
 w:World
 K:qed
 mg:Str->Option Value
 base:Heap
 A:Around
 N:List Str
 s₀:Shared
 H₀:Hp
 env:Env
 outer:List Env
 stack:List Env
 ex:List Addr
 fn:Str->Bool
 calm:Bool
 pn:List (Addr×Obj)
 xe:Value->Shared->Prop
def frs(l:List Env):List Addr:=l.filterMap (·.frame)
abbrev Cx.fs(X:Cx):List Addr:=frs X.outer
def Vis(sc:Scope)(x:Str):Prop:=sc.names.lookup x=some .local\/sc.names.lookup x=some .cell\/sc.names.lookup x=some .free
def Loc(sc:Scope)(x:Str):Prop:=sc.names.lookup x=some .local\/sc.names.lookup x=some .cell
def Look(env:Env)(h:Heap)(m:Str->Option Value)(x:Str)(u:Value):Prop:=
 (env.kindOf x=some .local/\m x=some u)\/((env.kindOf x=some .cell\/env.kindOf x=some .free)/\∃c,env.cells.lookup x=some c/\h.IsCell c (some u))
structure Cx.Ok(X:Cx):Prop where
 mod:Mod X.K X.mg X.base
 kind:X.env.scope.kind=.function
 glob:X.env.globals=mainGlobals
 blt:X.env.builtins=builtinsNs
 above:X.s₀.heap.objs.size<=X.env.locals
 inj:∀x y c,X.env.cells.lookup x=some c->X.env.cells.lookup y=some c->x=y
 has:∀x,(X.env.kindOf x=some .cell\/X.env.kindOf x=some .free)->∃c,X.env.cells.lookup x=some c
 cab:∀x c,X.fn x=true->X.env.cells.lookup x=some c->X.s₀.heap.objs.size<=c
 hd:X.calm=true->X.A.handled=none
 frames:X.A.frames=some X.stack
 stk:X.stack=X.outer\/(X.stack=X.env::X.outer/\X.env.frame=some X.env.locals)
 exf:∀b∈X.ex,b≠X.env.locals/\∀x c,X.env.cells.lookup x=some c->c≠b
 bs:∀b o,X.base.get? b=some o->X.s₀.heap.get? b=some o/\X.H₀ b=none
 bsz:X.base.objs.size<=X.s₀.heap.objs.size
 noex:∀b o,X.base.get? b=some o->b ∉ X.ex
 exfs:∀b∈X.ex,b ∉ X.fs
 funs:X.s₀.heap.FunFrames X.base X.outer
 frf:∀b∈X.fs,X.H₀ b=none
structure Inv(X:Cx)(pins:List (Addr×Obj))(σ:List (Option V))(H:Hp)(s:Shared):Prop where
 ok:X.Ok
 os:s.os=X.s₀.os
 bare:AllBare s.gens
 base:Un X.fs X.ex X.H₀ H X.s₀.heap s.heap
 loc:∃m,s.heap.Ns X.env.locals m/\∀(i:Nat)(x:Str)(v:V),X.N[i]?=some x->σ[i]?=some (some v)->Vis X.env.scope x->∃u,RelV v u/\Look X.env s.heap m x u
 cell:∀x c,X.env.cells.lookup x=some c->∃v,s.heap.IsCell c v
 free:H X.env.locals=none
 freeC:∀x c,X.env.cells.lookup x=some c->H c=none
 pin:∀p∈X.pn++pins,s.heap.get? p.1=some p.2/\H p.1=none/\p.1≠X.env.locals/\p.1 ∉ X.fs/\∀v,p.2.data≠.cell v
 hok:HOk X.prog X.w H s.heap
 len:σ.length=X.N.length
section
variable{X:Cx}{pins:List (Addr×Obj)}{σ:List (Option V)}{H H':Hp}{s:Shared}{h':Heap}
theorem Cx.Ok.nofr(ok:X.Ok){b:Addr}{o:Obj}(e:X.base.get? b=some o):b ∉ X.fs:=λhb=>by
 have:=(ok.funs.mem hb).1
 rw[e]at this;cases this
theorem Inv.bs(I:Inv X pins σ H s):∀b o,X.base.get? b=some o->s.heap.get? b=some o/\H b=none:=λb o e=>
 ⟨I.base.keep b o (I.ok.bs b o e).1 (I.ok.bs b o e).2 (I.ok.nofr e) (I.ok.noex b o e),I.base.free b o (I.ok.bs b o e).1 (I.ok.bs b o e).2 (I.ok.noex b o e)⟩
theorem Inv.bk(I:Inv X pins σ H s):∀b o,X.base.get? b=some o->s.heap.get? b=some o:=λb o e=>(I.bs b o e).1
theorem Inv.mod(I:Inv X pins σ H s):Mod X.K X.mg X.base:=I.ok.mod
theorem Inv.kIn(I:Inv X pins σ H s):X.K.In s.heap:=I.ok.mod.kin.keeps I.bk
theorem Inv.fr(I:Inv X pins σ H s):∃m,Fr X.base X.env.locals s.heap m:=
 let ⟨m,hn,_⟩:=I.loc
 ⟨m,hn,I.bk,qfq I.ok.bsz I.ok.above⟩
theorem Inv.lt(I:Inv X pins σ H s):X.env.locals<s.heap.objs.size:=let ⟨_,hn,_⟩:=I.loc;hn.lt
theorem Inv.sz(I:Inv X pins σ H s):X.s₀.heap.objs.size<=s.heap.objs.size:=qfq I.ok.above (qjq I.lt)
theorem Inv.nofs(I:Inv X pins σ H s){a:Addr}(h:s.heap.objs.size<=a):a ∉ X.fs:=λhb=>by
 obtain⟨_,o,ho,_⟩:=I.ok.funs.mem hb
 exact absurd (qep (Heap.lt_size ho) (qfq I.sz h)) (qgi _)
theorem Inv.cne(I:Inv X pins σ H s):∀x c,X.env.cells.lookup x=some c->c≠X.env.locals:=λx c e z=>by
 obtain⟨v,o,ho,hd⟩:=I.cell x c e
 obtain⟨m,⟨o',es,ep,ho',hd',_⟩,_⟩:=I.loc
 rw[z,ho']at ho;cases ho;rw[hd']at hd;cases hd
theorem Inv.funs(I:Inv X pins σ H s):s.heap.FunFrames X.base X.outer:=by
 have all:∀(l:List Env),(∀b∈frs l,b∈X.fs)->X.s₀.heap.FunFrames X.base l->s.heap.FunFrames X.base l:=by
  intro l
  induction l with
  |nil=>intro _ _;trivial
  |cons env r ih=>
   intro hs hl
   obtain⟨hk,⟨L,o,hf,hn,ho,hd⟩,hr⟩:=hl
   have hL:L∈X.fs:=hs L (by unfold frs;rw[qhm,hf];exact qfw)
   obtain⟨sl,e⟩:=I.base.slot L o ho (I.ok.frf L hL) hL λz=>I.ok.exfs L z hL
   exact⟨hk,⟨L,_,hf,hn,e,hd⟩,ih (λb hb=>hs b (by unfold frs;rw[qhm,hf];exact qfa _ hb)) hr⟩
 exact all X.outer (λ_ hb=>hb) I.ok.funs
theorem Inv.stack(I:Inv X pins σ H s):s.heap.FunFrames X.base X.stack:=by
 rcases I.ok.stk with e|⟨e,hf⟩
 ·rw[e];exact I.funs
 ·rw[e]
  obtain⟨m,hn,_⟩:=I.loc
  refine .cons (by rw[I.ok.kind];decide) hf hn ?_ I.funs
  exact Heap.get?_none_of_le (qfq I.ok.bsz I.ok.above)
theorem Inv.stkSub(I:Inv X pins σ H s):∀b∈frs X.stack,b∈X.env.locals::X.fs:=λb hb=>by
 rcases I.ok.stk with e|⟨e,hf⟩
 ·rw[e]at hb;exact qfa _ hb
 ·rw[e]at hb
  unfold frs at hb
  rw[qhm,hf]at hb
  exact hb
theorem Inv.stkFree(I:Inv X pins σ H s):∀b∈frs X.stack,H b=none:=λb hb=>by
 rcases qer.mp (I.stkSub b hb) with e|hb
 ·rw[e];exact I.free
 ·obtain⟨_,o,ho,_⟩:=I.ok.funs.mem hb
  exact I.base.free b o ho (I.ok.frf b hb) λz=>I.ok.exfs b z hb
theorem Inv.step{g':Array GenState}{t':Nat}{d':Drawn}{ch:List Addr}(I:Inv X pins σ H s)(hch:∀b∈ch,(b∈X.ex\/X.s₀.heap.objs.size<=b)/\b≠X.env.locals/\(∀x c,X.env.cells.lookup x=some c->c≠b)/\∀p∈X.pn++pins,p.1≠b)(keep:∀b o,b≠X.env.locals->b ∉ X.fs->b ∉ ch->s.heap.get? b=some o->H b=none->h'.get? b=some o)(slot:∀b o,b≠X.env.locals->b∈X.fs->b ∉ ch->s.heap.get? b=some o->H b=none->∃sl,h'.get? b=some { o with slots:=sl })(free:∀b o,b ∉ ch->s.heap.get? b=some o->H b=none->H' b=none)(there:∀b o,b ∉ ch->s.heap.get? b=some o->∃o',h'.get? b=some o')(tups:∀b xs,H b=some (.tup xs)->H' b=some (.tup xs))(frzs:∀b o u,H b=some (.frz o u)->H' b=some (.frz o u))(tbls:∀b ps,H b=some (.tbl ps)->∃more,H' b=some (.tbl (ps++more)))(ns:∀m,s.heap.Ns X.env.locals m->h'.Ns X.env.locals m)(hok:HOk X.prog X.w H' h')(hg:AllBare g') :
  Inv X pins σ H' { s with heap:=h',gens:=g',drawn:=d',toks:=t' }:=by
 have neL:∀b o,X.s₀.heap.get? b=some o->b≠X.env.locals:=λb o e=>qe9 (qep (Heap.lt_size e) I.ok.above)
 have neC:∀b o,X.s₀.heap.get? b=some o->b ∉ X.ex->b ∉ ch:=λb o e hx hb=>by
  rcases (hch b hb).1 with z|z
  ·exact hx z
  ·exact absurd (qep (Heap.lt_size e) z) (qgi _)
 have cellK:∀x c,X.env.cells.lookup x=some c->∀v,s.heap.IsCell c v->h'.IsCell c v:=λx c e v ⟨o,ho,hd⟩=>by
  have nch:c ∉ ch:=λz=>(hch c z).2.2.1 x c e rfl
  by_cases hc:c∈X.fs
  ·obtain⟨sl,q⟩:=slot c o (I.cne x c e) hc nch ho (I.freeC x c e)
   exact⟨_,q,hd⟩
  ·exact⟨o,keep c o (I.cne x c e) hc nch ho (I.freeC x c e),hd⟩
 refine⟨I.ok,I.os,hg,⟨λb o e n hb hx=>?_,λb o e n hb hx=>?_,λb o e n hx=>?_,λb o e hx=>?_,λb xs e=>tups b xs (I.base.tups b xs e),λb o xs e=>frzs b o xs (I.base.frzs b o xs e),λb ps e=>?_⟩,?_,λx c e=>?_,?_,λx c e=>?_,λp hp=>?_,hok,I.len⟩
 ·exact keep b o (neL b o e) hb (neC b o e hx) (I.base.keep b o e n hb hx) (I.base.free b o e n hx)
 ·obtain⟨sl,e1⟩:=I.base.slot b o e n hb hx
  obtain⟨sl',e2⟩:=slot b _ (neL b o e) hb (neC b o e hx) e1 (I.base.free b o e n hx)
  exact⟨sl',e2⟩
 ·obtain⟨o',e1⟩:=I.base.there b o e hx
  exact free b o' (neC b o e hx) e1 (I.base.free b o e n hx)
 ·obtain⟨o',e1⟩:=I.base.there b o e hx
  exact there b o' (neC b o e hx) e1
 ·obtain⟨m1,e1⟩:=I.base.tbls b ps e
  obtain⟨m2,e2⟩:=tbls b _ e1
  exact⟨m1++m2,by rw[e2,Array.append_assoc]⟩
 ·obtain⟨m,hn,hl⟩:=I.loc
  refine⟨m,ns m hn,λi x v e1 e2 e3=>?_⟩
  obtain⟨u,r,l⟩:=hl i x v e1 e2 e3
  refine⟨u,r,?_⟩
  rcases l with l|⟨k,c,e,z⟩
  ·exact .inl l
  ·exact .inr ⟨k,c,e,cellK x c e _ z⟩
 ·obtain⟨v,z⟩:=I.cell x c e
  exact⟨v,cellK x c e v z⟩
 ·obtain⟨m,⟨o,_,_,ho,_⟩,_⟩:=I.loc
  exact free _ o (λz=>(hch _ z).2.1 rfl) ho I.free
 ·obtain⟨v,o,ho,hd⟩:=I.cell x c e
  exact free c o (λz=>(hch c z).2.2.1 x c e rfl) ho (I.freeC x c e)
 ·obtain⟨e,n,ne,nf,d⟩:=I.pin p hp
  have nch:p.1 ∉ ch:=λz=>(hch p.1 z).2.2.2 p hp rfl
  exact⟨keep p.1 p.2 ne nf nch e n,free p.1 p.2 nch e n,ne,nf,d⟩
theorem Inv.un{t':Nat}(I:Inv X pins σ H s)(u:Un X.fs [] H H' s.heap h')(hok:HOk X.prog X.w H' h'):Inv X pins σ H' { s with heap:=h',toks:=t' }:=by
 obtain⟨m,⟨o,es,ep,ho,r⟩,_⟩:=id I.loc
 obtain⟨sl,hL⟩:=u.any ho I.free (by simp)
 exact I.step (g':=s.gens) (d':=s.drawn) (ch:=[]) (λ_ z=>nomatch z) (λb o _ hb _ e n=>u.keep b o e n hb (by simp)) (λb o _ hb _ e n=>u.slot b o e n hb (by simp)) (λb o _ e n=>u.free b o e n (by simp)) (λb o _ e=>u.there b o e (by simp)) u.tups u.frzs u.tbls (λm' hm=>by
  obtain⟨o',es',ep',ho',r'⟩:=hm
  rw[ho]at ho';cases ho'
  exact⟨_,es',ep',hL,r'⟩) hok I.bare
theorem Inv.call{g':Array GenState}{t':Nat}{d':Drawn}{ch:List Addr}(I:Inv X pins σ H s)(u:Un (frs X.stack) ch H H' s.heap h')(hok:HOk X.prog X.w H' h')(hg:AllBare g')(hch:∀b∈ch,(b∈X.ex\/X.s₀.heap.objs.size<=b)/\b≠X.env.locals/\(∀x c,X.env.cells.lookup x=some c->c≠b)/\∀p∈X.pn++pins,p.1≠b) :
  Inv X pins σ H' { s with heap:=h',gens:=g',drawn:=d',toks:=t' }:=by
 obtain⟨m,⟨o,es,ep,ho,r⟩,_⟩:=id I.loc
 obtain⟨sl,hL⟩:=u.any ho I.free λz=>(hch _ z).2.1 rfl
 exact I.step (ch:=ch) hch (λb o hL hb hc e n=>u.keep b o e n (λz=>(qer.mp (I.stkSub b z)).elim hL hb) hc) (λb o _ _ hc e n=>u.any e n hc) (λb o hc e n=>u.free b o e n hc) (λb o hc e=>u.there b o e hc) u.tups u.frzs u.tbls (λm' hm=>by
  obtain⟨o',es',ep',ho',r'⟩:=hm
  rw[ho]at ho';cases ho'
  exact⟨_,es',ep',hL,r'⟩) hok hg
theorem Inv.turned{t':Nat}{it:Addr}(I:Inv X pins σ H s)(k:∀b o,b≠it->s.heap.get? b=some o->h'.get? b=some o)(hn:H it=none)(hL:it≠X.env.locals)(h1:it∈X.ex\/X.s₀.heap.objs.size<=it)(h2:∀x c,X.env.cells.lookup x=some c->c≠it)(h3:∀p∈X.pn++pins,p.1≠it):Inv X pins σ H { s with heap:=h',toks:=t' }:=by
 have nit:∀b u,H b=some u->b≠it:=λb u e z=>by rw[z,hn]at e;cases e
 refine I.step (g':=s.gens) (d':=s.drawn) (ch:=[it]) (λb hb=>?_) (λb o _ _ hc e _=>k b o (λz=>hc (by simp[z])) e) (λb o _ _ hc e _=>⟨o.slots,k b o (λz=>hc (by simp[z])) e⟩) (λ_ _ _ _ n=>n)
  (λb o hc e=>⟨o,k b o (λz=>hc (by simp[z])) e⟩) (λ_ _ e=>e) (λ_ _ _ e=>e) (λb ps e=>⟨#[],by rw[e];simp⟩) (λm hm=>?_) (λb u e=>?_) I.bare
 ·have e:b=it:=by simpa using hb
  subst e
  exact⟨h1,hL,h2,h3⟩
 ·obtain⟨o,es,ep,ho,r⟩:=hm
  exact⟨o,es,ep,k _ o (Ne.symm hL) ho,r⟩
 ·refine (I.hok b u e).stay (λc v hc q=>k c v ?_ q) (λ_ q=>q) λ_ _ q=>q
  rcases hc with z|z
  ·rw[z];exact nit b u e
  ·exact nit c _ z
theorem Inv.tok(I:Inv X pins σ H s)(t:Nat):Inv X pins σ H { s with toks:=t }:=I.un (h':=s.heap) (t':=t) Un.refl I.hok
theorem Inv.kept{t':Nat}(I:Inv X pins σ H s)(k:∀b u,s.heap.get? b=some u->h'.get? b=some u):Inv X pins σ H { s with heap:=h',toks:=t' }:=I.un (Un.kept k) (I.hok.kept k)
theorem Inv.laid{a:Addr}{o:HO}{t':Nat}(I:Inv X pins σ H s)(k:∀b u,s.heap.get? b=some u->h'.get? b=some u)(hp:s.heap.objs.size<=a)(new:ObjOk X.prog X.w (upd H a o) h' a o) :
  Inv X pins σ (upd H a o) { s with heap:=h',toks:=t' }:=I.un (Un.laid k hp (I.hok.fresh hp)) (I.hok.laid k hp new)
theorem Inv.write{x e:Addr}{o:HO}{t':Nat}(I:Inv X pins σ H s)(mu:Mut (H x))(he:e=x\/H e=some (.own x))(k:∀b u,b≠e->s.heap.get? b=some u->h'.get? b=some u)(heo:∃u,h'.get? e=some u)(new:ObjOk X.prog X.w (upd H x o) h' x o):Inv X pins σ (upd H x o) { s with heap:=h',toks:=t' }:=I.un (Un.write mu he k heo) (I.hok.write mu he k heo new)
theorem Inv.weak{σ':List (Option V)}(I:Inv X pins σ H s)(hl:σ'.length=σ.length)(w:∀(i:Nat) v,σ'[i]?=some (some v)->σ[i]?=some (some v)):Inv X pins σ' H s:=
 ⟨I.ok,I.os,I.bare,I.base,let ⟨m,hn,hl'⟩:=I.loc;⟨m,hn,λi x v e1 e2 e3=>hl' i x v e1 (w i v e2) e3⟩,I.cell,I.free,I.freeC,I.pin,I.hok,hl.trans I.len⟩
theorem Inv.pins_of{pins':List (Addr×Obj)}(I:Inv X pins σ H s)(h:∀p∈pins',s.heap.get? p.1=some p.2/\H p.1=none/\p.1≠X.env.locals/\p.1 ∉ X.fs/\∀v,p.2.data≠.cell v):Inv X pins' σ H s:=
 ⟨I.ok,I.os,I.bare,I.base,I.loc,I.cell,I.free,I.freeC,λp hp=>(qeq.mp hp).elim (λz=>I.pin p (qft _ z)) (h p),I.hok,I.len⟩
theorem zno{N:List Str}(hN:N.Nodup){i j:Nat}{x:Str}(a:N[i]?=some x)(b:N[j]?=some x):i=j:=by
 obtain⟨h1,e1⟩:=qef.mp a
 obtain⟨h2,e2⟩:=qef.mp b
 exact (qix hN).mp (e1.trans e2.symm)
theorem zjv{M:Model}{A:Around}{E:Value->Shared->Prop}{i:Nat}{x:Str}{v:V}{u:Value}{Q:Unit->Shared->Prop}(I:Inv X pins σ H s)(hN:X.N.Nodup)(hi:X.N[i]?=some x)(hx:Loc X.env.scope x)(r:RelV v u)(h:∀s',Inv X pins (σ.set i (some v)) H s'->(∃a,Heap.SameBut a s.heap s'.heap/\(a=X.env.locals\/X.env.cells.lookup x=some a))->Q () s')(hf:X.fn x=true\/X.env.scope.names.lookup x=some .local:=by first|exact .inl rfl|exact .inr rfl|assumption):wpAny M A (storeName X.env x u) Q E s:=by
 obtain⟨m,hn,hl⟩:=id I.loc
 have hcls:(X.env.scope.kind == .class || (X.env.scope.kind == .module && X.env.locals != X.env.globals))=false:=by rw[I.ok.kind];rfl
 have hiσ:i<σ.length:=by rw[I.len];exact (qef.mp hi).1
 have cne:=I.cne
 have tracked:∀{a:Addr}{h':Heap},(∃o,s.heap.get? a=some o/\H a=none)->Heap.SameBut a s.heap h'->HOk X.prog X.w H h':=λ{a h'} ha hs b ob e=>by
  obtain⟨_,_,hfree⟩:=ha
  refine (I.hok b ob e).stay (λc w' hc q=>(hs.2 c ?_).trans q) (λ_ q=>q) λ_ _ q=>q
  rintro rfl
  rcases hc with rfl|hc
  ·rw[hfree]at e;cases e
  ·rw[hfree]at hc;cases hc
 rcases hx with hk|hk
 ·refine wpAny_storeName_local hk hn (λh' hn' hs=>?_) hcls
  obtain⟨oL,_,_,hoL,_⟩:=id hn
  refine h _ ⟨I.ok,I.os,I.bare,⟨λb o e n hb hx=>?_,λb o e n hb hx=>?_,I.base.free,λb o e hx=>?_,I.base.tups,I.base.frzs,I.base.tbls⟩,⟨_,hn',λj y v' e1 e2 e3=>?_⟩,λy c e=>?_,I.free,I.freeC,λp hp=>?_,tracked ⟨oL,hoL,I.free⟩ hs,by simpa using I.len⟩ ⟨_,hs,.inl rfl⟩
  ·exact (hs.2 b (qe9 (qep (Heap.lt_size e) I.ok.above))).trans (I.base.keep b o e n hb hx)
  ·obtain⟨sl,e1⟩:=I.base.slot b o e n hb hx
   exact⟨sl,(hs.2 b (qe9 (qep (Heap.lt_size e) I.ok.above))).trans e1⟩
  ·obtain⟨o',e1⟩:=I.base.there b o e hx
   exact⟨o',(hs.2 b (qe9 (qep (Heap.lt_size e) I.ok.above))).trans e1⟩
  ·by_cases hj:j=i
   ·subst hj
    rw[hi]at e1;cases e1
    rw[qhy hiσ]at e2
    cases e2
    exact⟨u,r,.inl ⟨hk,by simp⟩⟩
   ·rw[qia (Ne.symm hj)]at e2
    obtain⟨u',r',q⟩:=hl j y v' e1 e2 e3
    refine⟨u',r',?_⟩
    rcases q with ⟨k,e⟩|⟨k,c,e,z⟩
    ·refine .inl ⟨k,?_⟩
     have:y≠x:=λe=>hj (zno hN e1 (e▸hi))
     simp[this,e]
    ·exact .inr ⟨k,c,e,z.sameBut hs (cne y c e)⟩
  ·obtain⟨w',z⟩:=I.cell y c e
   exact⟨w',z.sameBut hs (cne y c e)⟩
  ·obtain⟨e,n,ne,nf,d⟩:=I.pin p hp
   exact⟨(hs.2 p.1 ne).trans e,n,ne,nf,d⟩
 ·have hfn:X.fn x=true:=by
   rcases hf with z|z
   ·exact z
   ·rw[z]at hk;cases hk
  obtain⟨c,hc⟩:=I.ok.has x (.inl hk)
  obtain⟨w',z⟩:=I.cell x c hc
  refine wpAny_storeName_cell I.ok.kind hk hc z (λh' hc' hs=>?_)
  obtain⟨oc,hoc,hocd⟩:=id z
  refine h { s with heap:=h' } ⟨I.ok,I.os,I.bare,⟨λb o e n hb hx=>?_,λb o e n hb hx=>?_,I.base.free,λb o e hx=>?_,I.base.tups,I.base.frzs,I.base.tbls⟩,⟨m,hn.sameBut hs (Ne.symm (cne x c hc)),λj y v' e1 e2 e3=>?_⟩,λy c' e=>?_,I.free,I.freeC,λp hp=>?_,tracked ⟨oc,hoc,I.freeC x c hc⟩ hs,by simpa using I.len⟩ ⟨c,hs,.inr hc⟩
  ·exact (hs.2 b (qe9 (qep (Heap.lt_size e) (I.ok.cab x c hfn hc)))).trans (I.base.keep b o e n hb hx)
  ·obtain⟨sl,e1⟩:=I.base.slot b o e n hb hx
   exact⟨sl,(hs.2 b (qe9 (qep (Heap.lt_size e) (I.ok.cab x c hfn hc)))).trans e1⟩
  ·obtain⟨o',e1⟩:=I.base.there b o e hx
   exact⟨o',(hs.2 b (qe9 (qep (Heap.lt_size e) (I.ok.cab x c hfn hc)))).trans e1⟩
  ·by_cases hj:j=i
   ·subst hj
    rw[hi]at e1;cases e1
    rw[qhy hiσ]at e2
    cases e2
    exact⟨u,r,.inr ⟨.inl hk,c,hc,hc'⟩⟩
   ·rw[qia (Ne.symm hj)]at e2
    obtain⟨u',r',q⟩:=hl j y v' e1 e2 e3
    refine⟨u',r',?_⟩
    rcases q with q|⟨k,c',e,z'⟩
    ·exact .inl q
    ·refine .inr ⟨k,c',e,z'.sameBut hs ?_⟩
     rintro rfl
     exact hj (zno hN e1 (I.ok.inj _ _ _ e hc▸hi))
  ·by_cases hcc:c'=c
   ·subst hcc;exact⟨_,hc'⟩
   ·obtain⟨w2,z2⟩:=I.cell y c' e
    exact⟨w2,z2.sameBut hs hcc⟩
  ·obtain⟨e,n,ne,nf,d⟩:=I.pin p hp
   refine⟨(hs.2 p.1 ?_).trans e,n,ne,nf,d⟩
   intro q
   rw[q,hoc]at e
   have q':oc=p.2:=qen.inj e
   exact d w' (by rw[<-q'];exact hocd)
theorem zna{M:Model}{A:Around}{E:Value->Shared->Prop}{i:Nat}{x:Str}{v:V}{u:Value}{Q:Unit->Shared->Prop}(I:Inv X pins σ H s)(hN:X.N.Nodup)(hi:X.N[i]?=some x)(hx:Loc X.env.scope x)(r:RelV v u)(h:∀s',Inv X pins (σ.set i (some v)) H s'->Q () s')(hf:X.fn x=true\/X.env.scope.names.lookup x=some .local:=by first|exact .inl rfl|exact .inr rfl|assumption):wpAny M A (storeName X.env x u) Q E s:=
 zjv I hN hi hx r (λs' I' _=>h s' I') hf
theorem Inv.call'{s':Shared}{ch:List Addr}(I:Inv X pins σ H s)(ho:s'.os=s.os)(u:Un (frs X.stack) ch H H' s.heap s'.heap)(hok:HOk X.prog X.w H' s'.heap)(hg:AllBare s'.gens)(hch:∀b∈ch,(b∈X.ex\/X.s₀.heap.objs.size<=b)/\b≠X.env.locals/\(∀x c,X.env.cells.lookup x=some c->c≠b)/\∀p∈X.pn++pins,p.1≠b):Inv X pins σ H' s':=by
 obtain⟨h',g',d',t',o'⟩:=s'
 have e:o'=s.os:=ho
 subst e
 exact I.call (g':=g') (t':=t') (d':=d') u hok hg hch
end
abbrev XK:=Value->Option Addr->Hp->Prop
abbrev St:=List (Option V)
abbrev VK:=V->Hp->Prop
abbrev TE:=St->Hp->VK->Prop
abbrev TT:=St->Hp->(Bool->Hp->Prop)->Prop
abbrev TA:=St->Hp->(List V->Hp->Prop)->Prop
structure qb1 where
 nx:St->Hp->Prop
 rt:VK
 bk:St->Hp->Prop:=λ_ _=>False
 ct:St->Hp->Prop:=λ_ _=>False
abbrev TS:=qb1->St->Hp->Prop
def EP(X:Cx)(pins:List (Addr×Obj))(σ:St)(Q:VK)(u:Value)(s':Shared):Prop:=∃v H',Inv X pins σ H' s'/\RelV v u/\Q v H'
def TP(X:Cx)(pins:List (Addr×Obj))(σ:St)(Q:Bool->Hp->Prop)(b:Bool)(s':Shared):Prop:=∃H',Inv X pins σ H' s'/\Q b H'
def AP(X:Cx)(pins:List (Addr×Obj))(σ:St)(Q:List V->Hp->Prop)(us:List Value)(s':Shared):Prop:=∃vs H',Inv X pins σ H' s'/\Vals vs us/\Q vs H'
def SP(X:Cx)(pins:List (Addr×Obj))(D:qb1)(f:Flow)(s':Shared):Prop:=
 match f with
 |.next=>∃σ' H',Inv X pins σ' H' s'/\D.nx σ' H'
 |.brk=>∃σ' H',Inv X pins σ' H' s'/\D.bk σ' H'
 |.cont=>∃σ' H',Inv X pins σ' H' s'/\D.ct σ' H'
 |.ret u=>∃v σ' H',Inv X pins σ' H' s'/\RelV v u/\D.rt v H'
def PE(X:Cx)(e:Expr)(t:TE):Prop:=
 ∀(pins:List (Addr×Obj))(s:Shared)(σ:St)(H:Hp)(Q:VK),Inv X pins σ H s->t σ H Q->wpAny (model X.prog X.w) X.A (eval e X.env) (EP X pins σ Q) X.xe s
def PT(X:Cx)(e:Expr)(t:TT):Prop:=
 ∀(pins:List (Addr×Obj))(s:Shared)(σ:St)(H:Hp)(Q:Bool->Hp->Prop),Inv X pins σ H s->t σ H Q->wpAny (model X.prog X.w) X.A (isTrue e X.env (eval e X.env)) (TP X pins σ Q) X.xe s
def PW(X:Cx)(e:Expr)(t:TT):Prop:=
 ∀(whole:Sem Value)(pins:List (Addr×Obj))(s:Shared)(σ:St)(H:Hp)(Q:Bool->Hp->Prop),Inv X pins σ H s->t σ H Q->wpAny (model X.prog X.w) X.A (isTrue e X.env whole) (TP X pins σ Q) X.xe s
theorem PW.pt{X:Cx}{e:Expr}{t:TT}(h:PW X e t):PT X e t:=h _
def PA(X:Cx)(es:List Expr)(t:TA):Prop:=
 ∀(pos:Pos)(pins:List (Addr×Obj))(s:Shared)(σ:St)(H:Hp)(Q:List V->Hp->Prop),Inv X pins σ H s->t σ H Q->wpAny (model X.prog X.w) X.A (spliced (backTo pos (starEach es X.env))) (AP X pins σ Q) X.xe s
def PS(X:Cx)(st:Stmt)(t:TS):Prop:=
 ∀(pins:List (Addr×Obj))(s:Shared)(σ:St)(H:Hp)(D:qb1),Inv X pins σ H s->t D σ H->wpAny (model X.prog X.w) X.A (exec st X.env) (SP X pins D) X.xe s
def PSs(X:Cx)(st:List Stmt)(t:TS):Prop:=
 ∀(pins:List (Addr×Obj))(s:Shared)(σ:St)(H:Hp)(D:qb1),Inv X pins σ H s->t D σ H->wpAny (model X.prog X.w) X.A (execs st X.env) (SP X pins D) X.xe s
theorem thn{α:Type}{t:Sem α}{Q Q':α->Shared->Prop}{M:Model}{A:Around}{E:Value->Shared->Prop}{s:Shared}(h:wpAny M A t Q E s)(hQ:∀a s,Q a s->Q' a s):wpAny M A t Q' E s:=wpAny_mono h hQ λ_ _ x=>x
section
variable{X:Cx}
theorem bin{a b:Expr}{ta tb:TE}(ha:PE X a ta)(hb:PE X b tb){pins:List (Addr×Obj)}{s:Shared}{σ:St}{H:Hp}{R:V->V->Hp->Prop}(I:Inv X pins σ H s)(h:ta σ H λx H1=>tb σ H1 λy H2=>R x y H2){α:Type}{Q:α->Shared->Prop}{f:Value->Value->Sem α}(hf:∀v u s2 x y H2,Inv X pins σ H2 s2->RelV x v->RelV y u->R x y H2->wpAny (model X.prog X.w) X.A (f v u) Q X.xe s2) :
  wpAny (model X.prog X.w) X.A (eval a X.env) (λv s₁=>wpAny (model X.prog X.w) X.A (eval b X.env) (λu s₂=>wpAny (model X.prog X.w) X.A (f v u) Q X.xe s₂) X.xe s₁) X.xe s:=by
 refine thn (ha pins s σ H _ I h) λv s1 ⟨x,H1,I1,r1,q1⟩=>?_
 refine thn (hb pins s1 σ H1 _ I1 q1) λu s2 ⟨y,H2,I2,r2,q2⟩=>?_
 exact hf v u s2 x y H2 I2 r1 r2 q2
def tVar(i:Nat):TE:=λσ H Q=>∃v,σ[i]?=some (some v)/\Q v H
def tC(v:V):TE:=λ_ H Q=>Q v H
theorem qbm{i:Nat}{x:Str}{pos:Pos}(hN:X.N[i]?=some x)(hv:Vis X.env.scope x)(hd:(x == ("__debug__":Str))=false:=by decide)(hcd:(x == ("__classdict__":Str))=false:=by decide):PE X (.Name x pos) (tVar i):=by
 intro pins s σ H Q I h
 obtain⟨v,e,h⟩:=h
 obtain⟨m,hn,hl⟩:=I.loc
 obtain⟨u,r,l⟩:=hl i x v hN e hv
 have fin:EP X pins σ Q u s:=⟨v,H,I,r,h⟩
 rcases l with ⟨hk,hm⟩|⟨hk,c,hc,hcell⟩
 ·exact wpAny_Name (wpAny_loadName_local I.ok.kind hk hn hm fin) hd
 ·rcases hk with hk|hk
  ·exact wpAny_Name (wpAny_loadName_cell I.ok.kind hk hc hcell fin) hd
  ·exact wpAny_Name (wpAny_loadName_free I.ok.kind hk hc hcell fin hcd) hd
theorem zan{i j pos}:PE X (.Constant (.int i) j pos) (tC (.int i)):=λ_ _ _ H _ I h=>wpAny_Constant_int ⟨.int i,H,I.tok _,⟨_,rfl⟩,h⟩
theorem zo3{b j pos}:PE X (.Constant (.bool b) j pos) (tC (.bl b)):=λ_ _ _ H _ I h=>Constant_bool ⟨.bl b,H,I,rfl,h⟩
theorem zam{x j pos}:PE X (.Constant (.str x) j pos) (tC (.str x)):=λ_ _ _ H _ I h=>Calls.Constant_str ⟨.str x,H,I.tok _,⟨_,rfl⟩,h⟩
def Gl(X:Cx)(x:Str):Prop:=X.env.kindOf x=some .globalImplicit
theorem zfj{E:Value->Shared->Prop}{pins:List (Addr×Obj)}{s:Shared}{σ:St}{H:Hp}{x:Str}{u:Value}{pos:Pos}{Q:Value->Shared->Prop}(I:Inv X pins σ H s)(hg:Gl X x)(hm:X.mg x=some u)(h:Q u s)(hd:(x == ("__debug__":Str))=false:=by decide):wpAny (model X.prog X.w) X.A (eval (.Name x pos) X.env) Q E s:=
 Calls.Name_function_global I.ok.kind hg (Calls.loadGlobal_global (by rw[I.ok.glob];exact I.mod.glob.keeps I.bk) hm h) hd
theorem zho{E:Value->Shared->Prop}{pins:List (Addr×Obj)}{s:Shared}{σ:St}{H:Hp}{x:Str}{u:Value}{pos:Pos}{Q:Value->Shared->Prop}(I:Inv X pins σ H s)(hg:Gl X x)(hm:X.mg x=none)(hv:bootBuiltins x=some u)(h:Q u s)(hn:x≠"__name__":=by decide)(hd:(x == ("__debug__":Str))=false:=by decide):wpAny (model X.prog X.w) X.A (eval (.Name x pos) X.env) Q E s:=by
 obtain⟨mb,h1,h2⟩:=I.mod.blt
 exact Calls.Name_function_global I.ok.kind hg (Calls.loadGlobal_builtin (by rw[I.ok.glob];exact I.mod.glob.keeps I.bk) hm (by rw[I.ok.blt];exact h1.keeps I.bk) ((h2 x hn).trans hv) h) hd
theorem zav{x:Str}{v:V}{u:Value}{pos:Pos}(hg:Gl X x)(hm:X.mg x=some u)(r:RelV v u)(hd:(x == ("__debug__":Str))=false:=by decide):PE X (.Name x pos) (tC v):=
 λ_ _ _ H _ I h=>zfj I hg hm ⟨v,H,I,r,h⟩ hd
variable{a b:Expr}{ta tb:TE}{pos:Pos}
def PC(X:Cx)(op:CmpOp)(a b:Expr)(t:TE):Prop:=
 ∀(pins:List (Addr×Obj))(s:Shared)(σ:St)(H:Hp)(Q:VK),Inv X pins σ H s->t σ H Q ->
  wpAny (model X.prog X.w) X.A (eval a X.env) (λv s₁=>wpAny (model X.prog X.w) X.A (eval b X.env) (λu s₂=>wpAny (model X.prog X.w) X.A (compareOp op v u) (EP X pins σ Q) X.xe s₂) X.xe s₁) X.xe s
theorem zs4(b:Expr){op:CmpOp}(h:op≠.In)(h2:op≠.NotIn):behindInMarks op b=false:=by
 have e1:(op == CmpOp.In)=false:=by cases op <;> first|rfl|exact absurd rfl h
 have e2:(op == CmpOp.NotIn)=false:=by cases op <;> first|rfl|exact absurd rfl h2
 cases b <;> simp[behindInMarks,e1,e2]
def tB(t:TE):TT:=λσ H Q=>t σ H λx H1=>∃c,x=.bl c/\Q c H1
theorem qbn{op:CmpOp}{t:TE}(h:PC X op a b t)(h1:behindInMarks op b=false:=by first|exact zs4 _ (by decide) (by decide)|rfl):PE X (.Compare a [op] [b] pos) t:=λpins s σ H Q I hw=>wpAny_Compare1 (h pins s σ H Q I hw) h1
theorem zsp{op:CmpOp}{t:TE}(h:PC X op a b t)(h1:behindInMarks op b=false:=by first|exact zs4 _ (by decide) (by decide)|rfl):PT X (.Compare a [op] [b] pos) (tB t):=by
 intro pins s σ H Q I hw
 refine wpAny_isTrue_Compare1 (thn (h pins s σ H _ I hw) λv s1 h1=>thn h1 λu s2 h2=>thn h2 λc s3 ⟨x,H1,I1,r1,q1⟩=>?_) h1
 obtain⟨d,rfl,q⟩:=q1
 cases r1
 exact wpAny_truthy_bool ⟨H1,I1,q⟩
theorem zce{e:Expr}{t:TE}(h:PE X e t)(he:∀whole,isTrue e X.env whole=(do let v <-whole;standAt e.pos;holding [v] (truthy v)):=by intro _;rfl):PT X e (tB t):=by
 intro pins s σ H Q I hw
 refine isTrue_plain (thn (h pins s σ H _ I hw) λv s1 ⟨x,H1,I1,r1,q1⟩=>?_) (he _)
 obtain⟨d,rfl,q⟩:=q1
 cases r1
 exact wpAny_truthy_bool ⟨H1,I1,q⟩
variable{tA tB':TT}{rest:List Expr}
def tAnd(t u:TT):TT:=λσ H Q=>t σ H λc H1=>if c=true then u σ H1 Q else Q false H1
def tOr(t u:TT):TT:=λσ H Q=>t σ H λc H1=>if c=true then Q true H1 else u σ H1 Q
def tNot(t:TT):TT:=λσ H Q=>t σ H λc H1=>Q (!c) H1
theorem zwi(ha:PT X a tA):PW X (.BoolOp .And [a] pos) tA:=by
 intro wh pins s σ H Q I h
 refine isTrue_and (thn (ha pins s σ H Q I h) λc s1 e=>?_)
 cases c with
 |true=>exact isTrue_and_nil e
 |false=>exact e
theorem zso(ha:PT X a tA):PW X (.BoolOp .Or [a] pos) tA:=by
 intro wh pins s σ H Q I h
 refine isTrue_or (thn (ha pins s σ H Q I h) λc s1 e=>?_)
 cases c with
 |false=>exact isTrue_or_nil e
 |true=>exact e
theorem qbk(ha:PT X a tA)(hb:PW X (.BoolOp .And (b::rest) pos) tB'):PW X (.BoolOp .And (a::b::rest) pos) (tAnd tA tB'):=by
 intro wh pins s σ H Q I h
 refine isTrue_and (thn (ha pins s σ H _ I h) λc s1 ⟨H1,I1,q1⟩=>?_)
 cases c with
 |true=>exact hb wh pins s1 σ H1 Q I1 q1
 |false=>exact⟨H1,I1,q1⟩
theorem zwh(ha:PT X a tA)(hb:PW X (.BoolOp .Or (b::rest) pos) tB'):PW X (.BoolOp .Or (a::b::rest) pos) (tOr tA tB'):=by
 intro wh pins s σ H Q I h
 refine isTrue_or (thn (ha pins s σ H _ I h) λc s1 ⟨H1,I1,q1⟩=>?_)
 cases c with
 |true=>exact⟨H1,I1,q1⟩
 |false=>exact hb wh pins s1 σ H1 Q I1 q1
theorem zmn(ha:PT X a tA):PT X (.UnaryOp .Not a pos) (tNot tA):=by
 intro pins s σ H Q I h
 exact isTrue_not (ha pins s σ H (λc H1=>Q (!c) H1) I h)
def tAndV(ta tb:TE):TE:=λσ H Q=>ta σ H λx H1=>∃c,x=.bl c/\if c=true then tb σ H1 Q else Q (.bl false) H1
def tOrV(ta tb:TE):TE:=λσ H Q=>ta σ H λx H1=>∃c,x=.bl c/\if c=true then Q (.bl true) H1 else tb σ H1 Q
theorem zo2{op}{t:TE}(h:PE X a t):PE X (.BoolOp op [a] pos) t:=λpins s σ H Q I hw=>BoolOp_one (h pins s σ H Q I hw)
theorem zo4(ha:PE X a ta)(hb:PE X (.BoolOp .And (b::rest) pos) tb):PE X (.BoolOp .And (a::b::rest) pos) (tAndV ta tb):=by
 intro pins s σ H Q I h
 refine BoolOp_and (thn (ha pins s σ H _ I h) λv s1 ⟨x,H1,I1,r1,q1⟩=>?_)
 obtain⟨c,rfl,q1⟩:=q1
 cases r1
 refine wpAny_truthy_bool ?_
 cases c with
 |true=>exact hb pins s1 σ H1 Q I1 q1
 |false=>exact⟨.bl false,H1,I1,rfl,q1⟩
theorem pe_or(ha:PE X a ta)(hb:PE X (.BoolOp .Or (b::rest) pos) tb):PE X (.BoolOp .Or (a::b::rest) pos) (tOrV ta tb):=by
 intro pins s σ H Q I h
 refine BoolOp_or (thn (ha pins s σ H _ I h) λv s1 ⟨x,H1,I1,r1,q1⟩=>?_)
 obtain⟨c,rfl,q1⟩:=q1
 cases r1
 refine wpAny_truthy_bool ?_
 cases c with
 |false=>exact hb pins s1 σ H1 Q I1 q1
 |true=>exact⟨.bl true,H1,I1,rfl,q1⟩
def tIf(t:TT)(ta tb:TE):TE:=λσ H Q=>t σ H λc H1=>if c=true then ta σ H1 Q else tb σ H1 Q
theorem zz2{c:Expr}(hc:PT X c tA)(ha:PE X a ta)(hb:PE X b tb):PE X (.IfExp c a b pos) (tIf tA ta tb):=by
 intro pins s σ H Q I h
 refine wpAny_IfExp (thn (hc pins s σ H _ I h) λd s1 ⟨H1,I1,q1⟩=>?_)
 cases d with
 |true=>exact ha pins s1 σ H1 Q I1 q1
 |false=>exact hb pins s1 σ H1 Q I1 q1
end
def SqL(K:qed)(H:Hp)(a:Addr)(xs:List V):Prop:=
 Rd H a (.lst xs) ∨
  ∃(o:Obj)(its:Array Value)(n:Nat),K.lookup a=some o/\o.cls=.type "list"/\o.dict=none/\o.data=.seq its n/\its.size<=sizeLine/\Vals xs its.toList
def SqT(K:qed)(H:Hp)(a:Addr)(xs:List V):Prop:=
 Rd H a (.tup xs) ∨
  ∃(o:Obj)(its:Array Value)(n:Nat),K.lookup a=some o/\o.cls=.type "tuple"/\o.data=.seq its n/\its.size<=sizeLine/\Vals xs its.toList
def absV:Value->Option V
 |.none=>some .non
 |.bool b=>some (.bl b)
 |.int i _=>some (.int i)
 |.str x _=>some (.str x)
 |.bytes b _=>some (.byt b)
 |.float b _=>some (.flt b)
 |.ref a=>some (.ref a)
 |.type n=>some (.ty n)
 |_=>none
theorem RelV.abs{x:V}{u:Value}(r:RelV x u):absV u=some x:=by
 cases x with
 |non=>cases r;rfl
 |bl _=>cases r;rfl
 |int _=>obtain⟨t,rfl⟩:=r;rfl
 |str _=>obtain⟨t,rfl⟩:=r;rfl
 |byt _=>obtain⟨t,rfl⟩:=r;rfl
 |flt _=>obtain⟨t,rfl⟩:=r;rfl
 |ref _=>cases r;rfl
 |ty _=>cases r;rfl
theorem RelV.inj{x y:V}{u:Value}(r:RelV x u)(q:RelV y u):x=y:=qen.inj (r.abs.symm.trans q.abs)
theorem Vals.inj:∀{xs ys:List V}{us:List Value},Vals xs us->Vals ys us->xs=ys
 |_,_,_,.nil,.nil=>rfl
 |_,_,_,.cons r t,.cons r' t'=>by rw[r.inj r',Vals.inj t t']
section
variable{X:Cx}{pins:List (Addr×Obj)}{σ:St}{H:Hp}{s:Shared}{a:Addr}{xs ys:List V}
theorem SqL.of{K:qed}(h:H a=some (.lst xs)):SqL K H a xs:=.inl (.inl h)
theorem Inv.list(I:Inv X pins σ H s)(h:SqL X.K H a xs):∃its:List Value,Vals xs its/\PlainL s.heap a its.toArray/\xs.length<=sizeLine:=by
 rcases h with h|⟨o,its,n,hk,hc,hd,hs,hz,r⟩
 ·obtain⟨z,its,n,r,e⟩:=h.ok I.hok
  exact⟨its,r,⟨_,n,e,rfl,rfl,rfl⟩,z⟩
 ·refine⟨its.toList,r,⟨o,n,I.kIn a o hk,hc,hd,by simpa using hs⟩,?_⟩
  have e:=r.length
  simp only[qgf]at e
  lia
theorem Inv.tuple(I:Inv X pins σ H s)(h:SqT X.K H a xs):∃its:List Value,Vals xs its/\IsTup s.heap a its.toArray/\xs.length<=sizeLine:=by
 rcases h with h|⟨o,its,n,hk,hc,hs,hz,r⟩
 ·obtain⟨z,its,r,p⟩:=h.ok I.hok
  exact⟨its,r,p,z⟩
 ·refine⟨its.toList,r,⟨o,I.kIn a o hk,hc,n,by simpa using hs⟩,?_⟩
  have e:=r.length
  simp only[qgf]at e
  lia
theorem Inv.list_inj(I:Inv X pins σ H s)(h:SqL X.K H a xs)(h':SqL X.K H a ys):xs=ys:=by
 obtain⟨its,r,⟨o,n,e,_,_,d⟩,_⟩:=I.list h
 obtain⟨its',r',⟨o',n',e',_,_,d'⟩,_⟩:=I.list h'
 rw[e]at e';cases e'
 rw[d]at d'
 injection d' with d1 _
 have:its=its':=by simpa using congrArg Array.toList d1
 subst this
 exact r.inj r'
end
abbrev Cx.wish(X:Cx)(E:Value->Shared->Prop):Cx:={ X with xe:=E }
theorem Cx.Ok.wish{X:Cx}(ok:X.Ok)(E:Value->Shared->Prop):(X.wish E).Ok:=
 ⟨ok.mod,ok.kind,ok.glob,ok.blt,ok.above,ok.inj,ok.has,ok.cab,ok.hd,ok.frames,ok.stk,ok.exf,ok.bs,ok.bsz,ok.noex,ok.exfs,ok.funs,ok.frf⟩
theorem Cx.Ok.unwish{X:Cx}{E:Value->Shared->Prop}(ok:(X.wish E).Ok):X.Ok:=
 ⟨ok.mod,ok.kind,ok.glob,ok.blt,ok.above,ok.inj,ok.has,ok.cab,ok.hd,ok.frames,ok.stk,ok.exf,ok.bs,ok.bsz,ok.noex,ok.exfs,ok.funs,ok.frf⟩
section
variable{X:Cx}{pins:List (Addr×Obj)}{σ:St}{H:Hp}{s:Shared}{E:Value->Shared->Prop}
theorem Inv.wish(I:Inv X pins σ H s)(E:Value->Shared->Prop):Inv (X.wish E) pins σ H s:=⟨I.ok.wish E,I.os,I.bare,I.base,I.loc,I.cell,I.free,I.freeC,I.pin,I.hok,I.len⟩
theorem Inv.unwish(I:Inv (X.wish E) pins σ H s):Inv X pins σ H s:=⟨I.ok.unwish,I.os,I.bare,I.base,I.loc,I.cell,I.free,I.freeC,I.pin,I.hok,I.len⟩
end
section
variable{X:Cx}{st:Stmt}{rest:List Stmt}{t u:TS}{e:Expr}{te:TE}{pos:Pos}
def tNext:TS:=λD σ H=>D.nx σ H
def tSeq(t u:TS):TS:=λD σ H=>t { D with nx:=u D } σ H
theorem zau:PSs X [] tNext:=λ_ _ σ H _ I h=>wpAny_execs_nil ⟨σ,H,I,h⟩
theorem zac(h1:PS X st t)(h2:PSs X rest u):PSs X (st::rest) (tSeq t u):=by
 intro pins s σ H D I h
 refine wpAny_execs_cons (thn (h1 pins s σ H { D with nx:=u D } I h) λf s1 q=>?_)
 cases f with
 |next=>
  obtain⟨σ',H',I',q⟩:=q
  exact h2 pins s1 σ' H' D I' q
 |ret v=>exact q
 |brk=>exact q
 |cont=>exact q
theorem zaf(h1:PS X st t):PSs X [st] t:=by
 intro pins s σ H D I h
 refine wpAny_execs_cons (thn (h1 pins s σ H D I h) λf s1 q=>?_)
 cases f with
 |next=>exact wpAny_execs_nil q
 |ret v=>exact q
 |brk=>exact q
 |cont=>exact q
theorem Inv.quiet{pins:List (Addr×Obj)}{σ:St}{H:Hp}{s:Shared}(I:Inv X pins σ H s):interactive X.env=false:=by simp[interactive,I.ok.kind]
def tDrop(te:TE):TS:=λD σ H=>te σ H λ_ H1=>D.nx σ H1
theorem zal(he:PE X e te)(hs:swapsWith e none pos.line X.env=pure false:=by rfl):PS X (.Expr e pos) (tDrop te):=by
 intro pins s σ H D I h
 exact wpAny_Expr_any (thn (he pins s σ H _ I h) λv s1 ⟨x,H1,I1,r1,q1⟩=>⟨σ,H1,I1,q1⟩) I.quiet hs
def tRet(te:TE):TS:=λD σ H=>te σ H D.rt
theorem zaq(he:PE X e te):PS X (.Return (some e) pos) (tRet te):=by
 intro pins s σ H D I h
 exact wpAny_Return_some (thn (he pins s σ H _ I h) λv s1 ⟨x,H1,I1,r1,q1⟩=>⟨x,σ,H1,I1,r1,q1⟩)
def tRetN:TS:=λD _ H=>D.rt .non H
theorem zwj:PS X (.Return none pos) tRetN:=λ_ _ σ H _ I h=>wpAny_Return_none ⟨.non,σ,H,I,rfl,h⟩
def tIfS(c:TT)(t u:TS):TS:=λD σ H=>c σ H λb H1=>if b=true then t D σ H1 else u D σ H1
theorem za9{c:Expr}{a b:List Stmt}{tc:TT}(hc:PT X c tc)(ha:PSs X a t)(hb:PSs X b u):PS X (.If c a b pos) (tIfS tc t u):=by
 intro pins s σ H D I h
 refine wpAny_If (thn (hc pins s σ H _ I h) λd s1 ⟨H1,I1,q1⟩=>?_)
 cases d with
 |true=>exact ha pins s1 σ H1 D I1 q1
 |false=>exact hb pins s1 σ H1 D I1 q1
end
abbrev TG:=V->St->Hp->(St->Hp->Prop)->Prop
abbrev TGs:=List V->St->Hp->(St->Hp->Prop)->Prop
def PG(X:Cx)(target:Expr)(t:TG):Prop:=
 ∀(pins:List (Addr×Obj))(s:Shared)(σ:St)(H:Hp)(v:V)(u:Value)(Q:St->Hp->Prop),Inv X pins σ H s->RelV v u->t v σ H Q ->
  wpAny (model X.prog X.w) X.A (assign target X.env u) (λ_ s'=>∃σ' H',Inv X pins σ' H' s'/\Q σ' H') X.xe s
def PGs(X:Cx)(ts:List Expr)(t:TGs):Prop:=
 ∀(pins:List (Addr×Obj))(s:Shared)(σ:St)(H:Hp)(vs:List V)(us:List Value)(Q:St->Hp->Prop),Inv X pins σ H s->Vals vs us->t vs σ H Q ->
  wpAny (model X.prog X.w) X.A (assignInOrder ((assignEach ts X.env).map (·.2)) us) (λ_ s'=>∃σ' H',Inv X pins σ' H' s'/\Q σ' H') X.xe s
abbrev TSet:=V->V->V->Hp->(Hp->Prop)->Prop
def PSet(X:Cx)(t:TSet):Prop:=
 ∀(pins:List (Addr×Obj))(s:Shared)(σ:St)(H:Hp)(o i v:V)(ov iv u:Value)(Q:Hp->Prop),Inv X pins σ H s->RelV o ov->RelV i iv->RelV v u->t o i v H Q ->
  wpAny (model X.prog X.w) X.A (setItem ov iv u) (λ_ s'=>∃H',Inv X pins σ H' s'/\Q H') X.xe s
section
variable{X:Cx}{pos:Pos}
def zi6(i:Nat):TG:=λv σ H Q=>Q (σ.set i (some v)) H
theorem zbj{i:Nat}{x:Str}(hN:X.N.Nodup)(hi:X.N[i]?=some x)(hx:Loc X.env.scope x)(hf:X.fn x=true\/X.env.scope.names.lookup x=some .local:=by first|exact .inl rfl|exact .inr rfl|assumption):PG X (.Name x pos) (zi6 i):=by
 intro pins s σ H v u Q I r h
 exact wpAny_assign_Name (zna I hN hi hx r (λs' I'=>⟨_,H,I',h⟩) hf)
def gNil:TGs:=λvs σ H Q=>vs=[]/\Q σ H
def zx6(t:TG)(u:TGs):TGs:=λvs σ H Q=>∃v r,vs=v::r/\t v σ H λσ' H'=>u r σ' H' Q
theorem qc2:PGs X [] gNil:=by
 intro pins s σ H vs us Q I r h
 obtain⟨e,h⟩:=h
 subst e
 cases r
 exact assignInOrder_nil ⟨σ,H,I,h⟩
theorem zss{e:Expr}{es:List Expr}{t:TG}{u:TGs}(h1:PG X e t)(h2:PGs X es u)(hs:(assignEach (e::es) X.env).map (·.2)=assign e X.env::(assignEach es X.env).map (·.2):=by rfl):PGs X (e::es) (zx6 t u):=by
 intro pins s σ H vs us Q I r h
 obtain⟨v,vr,e1,h⟩:=h
 subst e1
 cases r with
 |cons r rr=>
  rw[hs]
  refine assignInOrder_cons (thn (h1 pins s σ H _ _ _ I r h) λ_ s1 ⟨σ1,H1,I1,q1⟩=>?_)
  exact h2 pins s1 σ1 H1 _ _ Q I1 rr q1
def gTup(K:qed)(n:Nat)(t:TGs):TG:=λv σ H Q=>∃a xs,v=.ref a/\SqT K H a xs/\xs.length=n/\t xs σ H Q
theorem pg_tup{es:List Expr}{k:Nat}{t:TGs}{n:Nat}(hc:X.calm=true)(h:PGs X es t)(hn:(assignEach es X.env).length=n:=by rfl)(hst:(assignEach es X.env).findIdx? (·.1)=none:=by rfl):PG X (.Tuple es k pos) (gTup X.K n t):=by
 intro pins s σ H v u Q I r hw
 obtain⟨a,xs,e1,hq,hl,hw⟩:=hw
 subst e1
 cases r
 obtain⟨its,rv,ht,hz⟩:=I.tuple hq
 refine assign_Tuple_tuple (I.ok.hd hc) ht (by simp[hn,<-hl,rv.length]) hst λh' hx=>?_
 have I1:Inv X pins σ H { s with heap:=h' }:=I.kept (t':=s.toks) λb o e=>hx b o (qe9 (Heap.lt_size e)) e
 exact h pins _ σ H xs _ Q I1 (by simpa using rv) hw
def gSub(to ti:TE)(t:TSet):TG:=λv σ H Q=>to σ H λo H1=>ti σ H1 λi H2=>t o i v H2 λH3=>Q σ H3
theorem zwr{o i:Expr}{to ti:TE}{t:TSet}(ho:PE X o to)(hi:PE X i ti)(hs:PSet X t)(ha:∀v,assign (.Subscript o i pos) X.env v=(do
   let ov <-holding [v] (eval o X.env)
   let iv <-holding [v,ov] (eval i X.env)
   standAt pos
   holding [v,ov,iv] (setItem ov iv v)
   release [v,ov,iv] []):=by intro _;rfl):PG X (.Subscript o i pos) (gSub to ti t):=by
 intro pins s σ H v u Q I r h
 rw[ha]
 refine wpAny_bind (wpAny_holding (thn (ho pins s σ H _ I h) λov s1 ⟨x,H1,I1,r1,q1⟩=>?_))
 refine wpAny_bind (wpAny_holding (thn (hi pins s1 σ H1 _ I1 q1) λiv s2 ⟨y,H2,I2,r2,q2⟩=>?_))
 refine wpAny_bind (wpAny_standAt (wpAny_bind (wpAny_holding (thn (hs pins s2 σ H2 x y v ov iv u _ I2 r1 r2 r q2) λ_ s3 ⟨H3,I3,q3⟩=>?_))))
 exact wpAny_release ⟨σ,H3,I3,q3⟩
def tAsg(te:TE)(g:TG):TS:=λD σ H=>te σ H λx H1=>g x σ H1 D.nx
theorem zwl{tg e:Expr}{te:TE}{g:TG}(he:PE X e te)(hg:PG X tg g)(hs:swapsWithSole [tg] e pos.line X.env=pure false:=by rfl)(hw:swappedStores [tg] e X.env=pure none:=by rfl)(h1:(assignEach [tg] X.env).map (·.2)=[assign tg X.env]:=by rfl):PS X (.Assign [tg] e pos) (tAsg te g):=by
 intro pins s σ H D I h
 refine wpAny_Assign_stores (thn (he pins s σ H _ I h) λv s1 ⟨x,H1,I1,r1,q1⟩=>?_) hs hw
 rw[h1]
 exact thn (hg pins s1 σ H1 x v _ I1 r1 q1) λ_ s2 q=>q
theorem zap{i:Nat}{x:Str}{e:Expr}{te:TE}{pos':Pos}(hN:X.N.Nodup)(hi:X.N[i]?=some x)(hx:Loc X.env.scope x)(he:PE X e te)(hs:swapsWith e (some (.Name x pos')) pos.line X.env=pure false:=by rfl)(hf:X.fn x=true\/X.env.scope.names.lookup x=some .local:=by first|exact .inl rfl|exact .inr rfl|assumption) :
  PS X (.Assign [.Name x pos'] e pos) (tAsg te (zi6 i)):=by
 intro pins s σ H D I h
 refine wpAny_Assign_Name (thn (he pins s σ H _ I h) λv s1 ⟨y,H1,I1,r1,q1⟩=>?_) hs
 exact zna I1 hN hi hx r1 (λs2 I2=>⟨_,H1,I2,q1⟩) hf
end
section
variable{X:Cx}{pos:Pos}
def tWhile(c:TT)(tb:TS):TS:=λD σ H=>∃W:Nat->St->Hp->Prop,(∃m,W m σ H)/\∀m σ H,W m σ H ->
 c σ H λb H1=>if b=true then ∃N:St->Hp->Prop,(∀σ' H',N σ' H'->∃m',m'<m/\W m' σ' H')/\tb { D with nx:=N,ct:=N,bk:=D.nx } σ H1 else D.nx σ H1
theorem zd0{c:Expr}{body:List Stmt}{tc:TT}{tb:TS}(hp:PassesOwn (model X.prog X.w) X.A X.env X.xe)(hc:PT X c tc)(hb:PSs X body tb):PS X (.While c body [] pos) (tWhile tc tb):=by
 intro pins s σ H D I h
 obtain⟨W,⟨m0,w0⟩,turn⟩:=h
 refine wpAny_While (codeAny_whileLoop (λn s'=>∃σ' H',Inv X pins σ' H' s'/\W n σ' H') ?_ m0 ⟨σ,H,I,w0⟩)
 rintro n s1 ⟨σ1,H1,I1,w1⟩
 refine wpAny_passesOwn hp (thn (hc pins s1 σ1 H1 _ I1 (turn n σ1 H1 w1)) λb s2 ⟨H2,I2,q2⟩=>?_)
 cases b with
 |true=>
  obtain⟨N,hN,q2⟩:=q2
  rw[if_pos rfl]
  refine wpAny_passesOwn hp (thn (hb pins s2 σ1 H2 _ I2 q2) λf s3 q3=>?_)
  cases f with
  |next=>
   obtain⟨σ3,H3,I3,n3⟩:=q3
   obtain⟨m',hm,w3⟩:=hN σ3 H3 n3
   exact⟨m',hm,σ3,H3,I3,w3⟩
  |cont=>
   obtain⟨σ3,H3,I3,n3⟩:=q3
   obtain⟨m',hm,w3⟩:=hN σ3 H3 n3
   exact⟨m',hm,σ3,H3,I3,w3⟩
  |brk=>exact q3
  |ret v=>exact q3
 |false=>
  rw[if_neg qex]
  exact wpAny_execs_nil ⟨σ1,H2,I2,q2⟩
end
structure It where
 go:Nat->Hp->Prop
 yld:Nat->Hp->V->Hp->Prop
 stop:Nat->Hp->Prop
def zn9(X:Cx)(pins:List (Addr×Obj))(H:Hp)(b:Addr):Prop:=
 H b=none/\b≠X.env.locals/\b ∉ X.fs/\(b∈X.ex\/X.s₀.heap.objs.size<=b)/\(∀x c,X.env.cells.lookup x=some c->c≠b)/\∀p∈X.pn++pins,p.1≠b
theorem Inv.fpOk{X:Cx}{pins:List (Addr×Obj)}{σ:St}{H H':Hp}{s:Shared}{b:Addr}(I:Inv X pins σ H s)(hb:s.heap.objs.size<=b)(hn:H' b=none):zn9 X pins H' b:=by
 refine⟨hn,qgp (qep I.lt hb),I.nofs hb,.inr (qfq I.sz hb),λx c e z=>?_,λp hp z=>?_⟩
 ·obtain⟨v,q⟩:=I.cell x c e
  exact absurd (qep q.lt (by rw[z];exact hb)) (qgi _)
 ·exact absurd (qep (Heap.lt_size (I.pin p hp).1) (by rw[z];exact hb)) (qgi _)
structure qd6(P:Program)(w:World)(K:qed)(tg:Expr)(J:It)(fp:List Addr)(it:Addr)(tn:Nat->Heap->Prop):Prop where
 mem:it∈fp
 obj:∀i h,tn i h->∀b∈fp,∃o,h.get? b=some o/\∀v,o.data≠.cell v
 keep:∀i h h',tn i h->(∀b∈fp,∀o,h.get? b=some o->h'.get? b=some o)->tn i h'
 item:∀(X:Cx),X.prog=P->X.w=w->X.K=K->X.calm=true->∀(i:Nat)(pins:List (Addr×Obj))(s:Shared)(σ:St)(H:Hp)(E:Value->Shared->Prop),Inv X pins σ H s->(∀b∈fp,zn9 X pins H b)->tn i s.heap->J.go i H ->
  wpAny (model P w) X.A (pyNext (.ref it)) (λr s1=>∃u,r=some u ∧
   wpAny (model P w) X.A (letOwnedTupleGo tg (.ref it) u) (λ_ s2=>∃x H',Inv X pins σ H' s2/\RelV x u/\J.yld i H x H'/\tn (i+1) s2.heap/\∀b∈fp,H' b=none) E s1) E s
 done:∀(X:Cx),X.prog=P->X.w=w->X.K=K->X.calm=true->∀(i:Nat)(pins:List (Addr×Obj))(s:Shared)(σ:St)(H:Hp)(E:Value->Shared->Prop),Inv X pins σ H s->(∀b∈fp,zn9 X pins H b)->tn i s.heap->J.stop i H ->
  wpAny (model P w) X.A (pyNext (.ref it)) (λr s1=>r=none/\Inv X pins σ H s1) E s
 self:∀(A:Around)(i:Nat)(s:Shared)(Q:Value->Shared->Prop)(E:Value->Shared->Prop),tn i s.heap->Q (.ref it) s->wpAny (model P w) A (pyIter (.ref it)) Q E s
abbrev TI:=St->Hp->(It->Hp->Prop)->Prop
def PIE(X:Cx)(pins:List (Addr×Obj))(σ:St)(tg:Expr)(R:It->Hp->Prop)(itv:Value)(s2:Shared):Prop:=
 ∃(it:Addr)(fp:List Addr)(tn:Nat->Heap->Prop)(J:It)(H':Hp),itv=.ref it/\Inv X pins σ H' s2/\qd6 X.prog X.w X.K tg J fp it tn/\tn 0 s2.heap/\(∀b∈fp,zn9 X pins H' b)/\R J H'
def PI(X:Cx)(tg iter:Expr)(wi:TI):Prop:=
 ∀(pins:List (Addr×Obj))(s:Shared)(σ:St)(H:Hp)(R:It->Hp->Prop),Inv X pins σ H s->wi σ H R ->
  wpAny (model X.prog X.w) X.A (eval iter X.env) (λv s1=>wpAny (model X.prog X.w) X.A (pyIter v) (PIE X pins σ tg R) X.xe s1) X.xe s
theorem qdx{M:Model}{A:Around}{E:Value->Shared->Prop}{s:Shared}{tg:Expr}{it:Addr}{u:Value}{o:Obj}{n:String}{vs:Array Value}{Q:Unit->Shared->Prop}(ho:s.heap.get? it=some o)(hc:o.cls=.type n)(hd:o.data=.fields vs)(hn:["enumerate","zip","dict_itemiterator","dict_reverseitemiterator","odict_iterator","itertools.zip_longest","itertools.pairwise"].contains n=false)(hQ:Q () s):wpAny M A (letOwnedTupleGo tg (.ref it) u) Q E s:=by
 unfold letOwnedTupleGo
 cases tg <;> first
  |exact wpAny_pure hQ
  |(cases u <;> first
    |exact wpAny_pure hQ
    |(refine wpAny_bind (wpAny_load ho ?_)
      rw[hc,hd]
      show wpAny M A (if (["enumerate","zip","dict_itemiterator","dict_reverseitemiterator","odict_iterator","itertools.zip_longest","itertools.pairwise"].contains n && vs[0]? == some (rawInt _))=true then _ else _) Q E s
      rw[if_neg (by intro h;rw[hn,Bool.false_and]at h;cases h)]
      exact wpAny_pure hQ))
def Itl(K:qed)(a:Addr):It:=
 ⟨λi H=>∃xs x,SqL K H a xs/\xs[i]?=some x,λi H x H'=>H'=H/\∀xs,SqL K H a xs->xs[i]?=some x,λi H=>∃xs,SqL K H a xs/\xs.length<=i⟩
def Itr(lo:Int)(n:Nat):It:=⟨λi _=>i<n,λi H x H'=>H'=H/\x=.int (lo+i),λi _=>n<=i⟩
theorem zvu{P:Program}{w:World}{K:qed}{tg:Expr}(a it:Addr):qd6 P w K tg (Itl K a) [it] it (λi h=>h.IsListIter it a i) where
 mem:=by simp
 obj:=λi h st b hb=>by
  have e:b=it:=by simpa using hb
  subst e
  obtain⟨o,e,c,d⟩:=st
  exact⟨o,e,λv z=>by rw[d]at z;cases z⟩
 keep:=λi h h' st k=>st.at λo e=>k it (by simp) o e
 item:=by
  intro X hP hw hK hc i pins s σ H E I hf st hg
  subst hP hw hK
  obtain⟨xs,x,hq,hx⟩:=hg
  obtain⟨its,rv,p,hz⟩:=I.list hq
  obtain⟨u,hu,ru⟩:=rv.get hx
  obtain⟨f0,f1,f2,f3,f4,f5⟩:=hf it (by simp)
  refine wpAny_pyNext_list_item st p.isList (x:=u) (by simpa using hu) λh' st' sb=>?_
  have I1:Inv X pins σ H { s with heap:=h' }:=I.turned (t':=s.toks) (λb o hb e=>(sb.2 b hb).trans e) f0 f1 f3 f4 f5
  obtain⟨o,e,c,d⟩:=id st'
  exact⟨u,rfl,qdx (s:={ s with heap:=h' }) e c d (by decide) ⟨x,H,I1,ru,⟨rfl,λys hy=>by rw[I.list_inj hy hq];exact hx⟩,st',λb hb=>(hf b hb).1⟩⟩
 done:=by
  intro X hP hw hK hc i pins s σ H E I hf st hg
  subst hP hw hK
  obtain⟨xs,hq,hx⟩:=hg
  obtain⟨its,rv,p,hz⟩:=I.list hq
  obtain⟨f0,f1,f2,f3,f4,f5⟩:=hf it (by simp)
  have hl:=rv.length
  exact wpAny_pyNext_list_end (I.ok.hd hc) st p.isList (by simp;lia) λh' eb=>⟨rfl,I.turned (t':=s.toks) (λb o hb e=>eb b o hb e) f0 f1 f3 f4 f5⟩
 self:=λ_ _ _ _ _ st h=>wpAny_pyIter_listiter st h
theorem ztx{P:Program}{w:World}{K:qed}{tg:Expr}(it:Addr)(lo:Int)(n:Nat):qd6 P w K tg (Itr lo n) [it] it (λi h=>IsRangeIter h it (lo+(i:Nat)*1) ((n:Int) - (i:Nat)) 1) where
 mem:=by simp
 obj:=λi h st b hb=>by
  have e:b=it:=by simpa using hb
  subst e
  exact⟨_,st,λv z=>by
   have z':Data.fields _=Data.cell v:=z
   cases z'⟩
 keep:=λi h h' st k=>k it (by simp) _ st
 item:=by
  intro X hP hw hK hc i pins s σ H E I hf st hg
  subst hP hw hK
  obtain⟨f0,f1,f2,f3,f4,f5⟩:=hf it (by simp)
  have W:=Walks.range (prog:=X.prog) (w:=X.w) (I.ok.hd hc) it lo 1 n
  refine W.item i s _ _ hg st λv h' tk hv st' kk=>?_
  obtain⟨t,rfl⟩:=hv
  have I1:Inv X pins σ H { s with heap:=h',toks:=tk }:=I.turned (λb o hb e=>kk b o (by simpa using hb) e) f0 f1 f3 f4 f5
  refine⟨_,rfl,qdx (s:={ s with heap:=h',toks:=tk }) (n:="range_iterator") st' rfl rfl (by decide) ⟨.int (lo+i),H,I1,⟨t,?_⟩,⟨rfl,rfl⟩,st',λb hb=>(hf b hb).1⟩⟩
  rw[Int.mul_one]
 done:=by
  intro X hP hw hK hc i pins s σ H E I hf st hg
  subst hP hw hK
  obtain⟨f0,f1,f2,f3,f4,f5⟩:=hf it (by simp)
  exact wpAny_pyNext_range_end (I.ok.hd hc) st (by have:n<=i:=hg;lia) λh' eb=>⟨rfl,I.turned (t':=s.toks) (λb o hb e=>eb b o hb e) f0 f1 f3 f4 f5⟩
 self:=λ_ _ _ _ _ st h=>wpAny_pyIter_rangeiter st h
section
variable{X:Cx}{tg:Expr}
def iList(K:qed)(tl:TE):TI:=λσ H R=>tl σ H λx H1=>∃a,x=.ref a/\(∃xs,SqL K H1 a xs)/\R (Itl K a) H1
theorem zb2{l:Expr}{tl:TE}(hl:PE X l tl):PI X tg l (iList X.K tl):=by
 intro pins s σ H R I h
 refine thn (hl pins s σ H _ I h) λv s1 ⟨x,H1,I1,r1,q1⟩=>?_
 obtain⟨a,e,⟨xs,hq⟩,q⟩:=q1
 subst e
 cases r1
 obtain⟨its,rv,p,hz⟩:=I1.list hq
 refine wpAny_pyIter_list p.isList ?_
 refine⟨s1.heap.objs.size,[s1.heap.objs.size],_,_,H1,rfl,I1.kept (t':=s1.toks) λb o e=>Heap.get?_push_of_some _ e,zvu a _,⟨_,Heap.get?_push_size _ rfl,rfl,rfl⟩,λb hb=>?_,q⟩
 have e:b=s1.heap.objs.size:=by simpa using hb
 subst e
 exact I1.fpOk (qek _) (I1.hok.fresh (qek _))
theorem zsn{pins:List (Addr×Obj)}{σ:St}{H:Hp}{s:Shared}{R:It->Hp->Prop}{E:Value->Shared->Prop}{lo hi:Int}{t u v:Tok}{tk:Nat}(I:Inv X pins σ H s)(h1:-(2 ^ 62)<=lo)(h2:lo<2 ^ 62)(h3:-(2 ^ 62)<=hi)(h4:hi<2 ^ 62)(q:R (Itr lo (hi - lo).toNat) H):wpAny (model X.prog X.w) X.A (pyIter (.ref s.heap.objs.size)) (PIE X pins σ tg R) E { s with heap:=s.heap.push { cls:=.type "range",data:=.fields #[.int lo t,.int hi u,.int 1 v] },toks:=tk }:=by
 refine wpAny_pyIter_range (IsRange.new ..) (small_one h1 h2 h3 h4) ?_
 have I1:Inv X pins σ H { s with heap:=s.heap.push { cls:=.type "range",data:=.fields #[.int lo t,.int hi u,.int 1 v] },toks:=tk }:=I.kept λb o e=>Heap.get?_push_of_some _ e
 refine⟨(s.heap.push { cls:=.type "range",data:=.fields #[.int lo t,.int hi u,.int 1 v] }).objs.size,[(s.heap.push { cls:=.type "range",data:=.fields #[.int lo t,.int hi u,.int 1 v] }).objs.size],_,_,H,rfl,
  I1.kept (t':=tk) λb o e=>Heap.get?_push_of_some _ e,ztx _ lo (hi - lo).toNat,?_,λb hb=>?_,q⟩
 ·have e1:lo+((0:Nat):Int)*1=lo:=by simp
  have e2:(((hi - lo).toNat:Nat):Int) - ((0:Nat):Int)=Builtin.Range.rangeSize lo hi 1:=by rw[rangeSize_one];split <;> lia
  show IsRangeIter _ _ (lo+((0:Nat):Int)*1) ((((hi - lo).toNat:Nat):Int) - ((0:Nat):Int)) 1
  rw[e1,e2]
  exact Heap.get?_push_size _ rfl
 ·have e:b=(s.heap.push { cls:=.type "range",data:=.fields #[.int lo t,.int hi u,.int 1 v] }).objs.size:=by simpa using hb
  subst e
  exact I1.fpOk (qek _) (I1.hok.fresh (qek _))
def iRng1(ta:TA):TI:=λσ H R=>ta σ H λvs H1=>∃j:Int,vs=[.int j]/\-(2 ^ 62)<=j/\j<2 ^ 62/\R (Itr 0 j.toNat) H1
def iRng2(ta:TA):TI:=λσ H R=>ta σ H λvs H1=>∃i j:Int,vs=[.int i,.int j]/\(-(2 ^ 62)<=i/\i<2 ^ 62/\-(2 ^ 62)<=j/\j<2 ^ 62)/\R (Itr i (j - i).toNat) H1
theorem zwq{a:Expr}{ta:TA}{p pos:Pos}(hg:Gl X "range")(hm:X.mg "range"=none)(ha:PA X [a] ta)(hs:starEach [a] X.env=[(false,eval a X.env)]:=by rfl):PI X tg (.Call (.Name "range" p) [a] [] pos) (iRng1 ta):=by
 intro pins s σ H R I h
 refine Call_ (zho I hg hm boot_range (PyProof.Rows.callWith_type1 (thn (ha pos pins s σ H _ I h) λus s1 ⟨vs,H1,I1,r1,q1⟩=>?_) hs rfl))
 obtain⟨j,e,q1,q2,q⟩:=q1
 subst e
 cases r1 with
 |cons r rr=>
  cases rr
  obtain⟨t,rfl⟩:=r
  exact call_range_1 (zsn I1 (by lia) (by lia) q1 q2 (by simpa using q))
theorem zwp{a b:Expr}{ta:TA}{p pos:Pos}(hg:Gl X "range")(hm:X.mg "range"=none)(ha:PA X [a,b] ta)(hs:starEach [a,b] X.env=[(false,eval a X.env),(false,eval b X.env)]:=by rfl)(hs2:starEach [b] X.env=[(false,eval b X.env)]:=by rfl) :
  PI X tg (.Call (.Name "range" p) [a,b] [] pos) (iRng2 ta):=by
 intro pins s σ H R I h
 refine Call_ (zho I hg hm boot_range (PyProof.Rows.callWith_type1 (thn (ha pos pins s σ H _ I h) λus s1 ⟨vs,H1,I1,r1,q1⟩=>?_) (by rw[hs,hs2]) (by rw[hs2];rfl)))
 obtain⟨i,j,e,⟨q1,q2,q3,q4⟩,q⟩:=q1
 subst e
 cases r1 with
 |cons r rr=>
  cases rr with
  |cons r' rr=>
   cases rr
   obtain⟨t,rfl⟩:=r
   obtain⟨t',rfl⟩:=r'
   exact call_range_2 (zsn I1 q1 q2 q3 q4 q)
def tFor(wi:TI)(g:TG)(tb:TS):TS:=λD σ H=>wi σ H λJ H1=>∃W:Nat->Nat->St->Hp->Prop,(∃m,W 0 m σ H1)/\∀i m σ H,W i m σ H ->
 (J.stop i H/\D.nx σ H)\/(J.go i H/\∃N:St->Hp->Prop,(∀σ' H',N σ' H'->∃m',m'<m/\W (i+1) m' σ' H')/\∀x H',J.yld i H x H'->g x σ H' λσ2 H2=>tb { D with nx:=N,ct:=N,bk:=D.nx } σ2 H2)
def zmp(fp:List Addr)(h:Heap):List (Addr×Obj):=fp.filterMap λb=>(h.get? b).map λo=>(b,o)
theorem zf1{fp:List Addr}{h:Heap}{b:Addr}{o:Obj}(hb:b∈fp)(e:h.get? b=some o):(b,o)∈zmp fp h:=qhu.mpr ⟨b,hb,by rw[e];rfl⟩
theorem zxf{fp:List Addr}{h:Heap}{p:Addr×Obj}(hp:p∈zmp fp h):p.1∈fp/\h.get? p.1=some p.2:=by
 obtain⟨b,hb,e⟩:=qhu.mp hp
 cases q:h.get? b with
 |none=>rw[q]at e;cases e
 |some o=>
  rw[q]at e
  have e':(b,o)=p:=qen.inj e
  subst e'
  exact⟨hb,q⟩
theorem Inv.pinned{pins:List (Addr×Obj)}{σ:St}{H:Hp}{s:Shared}{fp:List Addr}(I:Inv X pins σ H s)(hf:∀b∈fp,zn9 X pins H b)(ho:∀b∈fp,∃o,s.heap.get? b=some o/\∀v,o.data≠.cell v):Inv X (pins++zmp fp s.heap) σ H s:=
 I.pins_of λp hp=>(qeq.mp hp).elim (λz=>I.pin p (qfi _ z)) λz=>by
  obtain⟨hb,e⟩:=zxf z
  obtain⟨f0,f1,f2,_⟩:=hf p.1 hb
  obtain⟨o,e',d⟩:=ho p.1 hb
  rw[e]at e';cases e'
  exact⟨e,f0,f1,f2,d⟩
theorem Inv.unpinned{pins pl:List (Addr×Obj)}{σ:St}{H:Hp}{s:Shared}(I:Inv X (pins++pl) σ H s):Inv X pins σ H s:=I.pins_of λp hp=>I.pin p (qfi _ (qft _ hp))
theorem zew{iter:Expr}{body:List Stmt}{wi:TI}{g:TG}{tb:TS}{pos:Pos}(hp:PassesOwn (model X.prog X.w) X.A X.env X.xe)(hc:X.calm=true)(hi:PI X tg iter wi)(hg:PG X tg g)(hb:PSs X body tb)(hs:∀x,foldedSetIterable iter X.env x=pure x:=by intro _;rfl):PS X (.For tg iter body [] pos) (tFor wi g tb):=by
 intro pins s σ H D I h
 refine wpAny_For (thn (hi pins s σ H _ I h) λv s1 h1=>thn h1 λitv s2 h2=>?_) hs
 obtain⟨it,fp,tn,J,H2,e,I2,T,st2,f2,W,⟨m0,w0⟩,turn⟩:=h2
 subst e
 have stat:∀{H':Hp},(∀b∈fp,H' b=none)->∀b∈fp,zn9 X pins H' b:=λhn b hb=>⟨hn b hb,(f2 b hb).2⟩
 refine codeAny_forLoop_any (λn s'=>∃i σ' H',Inv X pins σ' H' s'/\tn i s'.heap/\(∀b∈fp,H' b=none)/\W i n σ' H') ?_ m0 ⟨0,σ,H2,I2,st2,λb hb=>(f2 b hb).1,w0⟩
 rintro n s3 ⟨i,σ3,H3,I3,st3,fr3,w3⟩
 rcases turn i n σ3 H3 w3 with ⟨stop,qn⟩|⟨go,N,hN,step⟩
 ·refine wpAny_passesOwn hp (thn (T.done X rfl rfl rfl hc i pins s3 σ3 H3 X.xe I3 (stat fr3) st3 stop) λr s4 ⟨hr,I4⟩=>?_)
  subst hr
  exact wpAny_execs_nil ⟨σ3,H3,I4,qn⟩
 ·refine wpAny_passesOwn hp (thn (T.item X rfl rfl rfl hc i pins s3 σ3 H3 X.xe I3 (stat fr3) st3 go) λr s4 ⟨u,hr,h4⟩=>?_)
  subst hr
  refine wpAny_passesOwn hp (thn h4 λ_ s5 ⟨x,H5,I5,r5,y5,st5,fr5⟩=>?_)
  have I5':=I5.pinned (stat fr5) (T.obj _ _ st5)
  refine wpAny_passesOwn hp (thn (hg _ s5 σ3 H5 x u _ I5' r5 (step x H5 y5)) λ_ s6 ⟨σ6,H6,I6,q6⟩=>?_)
  refine wpAny_passesOwn hp (thn (hb _ s6 σ6 H6 _ I6 q6) λf s7 q7=>?_)
  have again:∀{σ7:St}{H7:Hp},Inv X (pins++zmp fp s5.heap) σ7 H7 s7->N σ7 H7->∃m,m<n/\∃i σ' H',Inv X pins σ' H' s7/\tn i s7.heap/\(∀b∈fp,H' b=none)/\W i m σ' H':=λ{σ7 H7} I7 n7=>by
   obtain⟨m',hm,w7⟩:=hN σ7 H7 n7
   refine⟨m',hm,i+1,σ7,H7,I7.unpinned,T.keep _ _ _ st5 λb hb o e=>(I7.pin (b,o) (qfi _ (qfi _ (zf1 hb e)))).1,λb hb=>?_,w7⟩
   obtain⟨o,e,d⟩:=T.obj _ _ st5 b hb
   exact (I7.pin (b,o) (qfi _ (qfi _ (zf1 hb e)))).2.1
  cases f with
  |next=>obtain⟨σ7,H7,I7,n7⟩:=q7;exact again I7 n7
  |cont=>obtain⟨σ7,H7,I7,n7⟩:=q7;exact again I7 n7
  |brk=>obtain⟨σ7,H7,I7,q7⟩:=q7;exact⟨σ7,H7,I7.unpinned,q7⟩
  |ret v=>obtain⟨x7,σ7,H7,I7,r7,q7⟩:=q7;exact⟨x7,σ7,H7,I7.unpinned,r7,q7⟩
end
theorem zf4{K:qed}{a:Addr}{xs:List V}{g:TG}{tb:TS}{D:qb1}{σ:St}{H:Hp}(Pv:Nat->St->Hp->Prop)(h0:Pv 0 σ H)(hl:∀i σ H,i<=xs.length->Pv i σ H->SqL K H a xs)(hs:∀i x σ H,xs[i]?=some x->Pv i σ H->g x σ H λσ2 H2=>tb { D with nx:=Pv (i+1),ct:=Pv (i+1),bk:=D.nx } σ2 H2)(hd:∀σ H,Pv xs.length σ H->D.nx σ H) :
  ∃W:Nat->Nat->St->Hp->Prop,(∃m,W 0 m σ H)/\∀i m σ H,W i m σ H ->
   ((Itl K a).stop i H/\D.nx σ H)\/((Itl K a).go i H/\∃N:St->Hp->Prop,(∀σ' H',N σ' H'->∃m',m'<m/\W (i+1) m' σ' H')/\∀x H',(Itl K a).yld i H x H'->g x σ H' λσ2 H2=>tb { D with nx:=N,ct:=N,bk:=D.nx } σ2 H2):=by
 refine⟨λi m σ H=>m=xs.length - i/\i<=xs.length/\Pv i σ H,⟨xs.length,by simp,qf4 _,h0⟩,?_⟩
 rintro i m σ H ⟨rfl,hi,p⟩
 have q:=hl i σ H hi p
 by_cases hlt:i<xs.length
 ·refine .inr ⟨⟨xs,xs[i],q,by simp[hlt]⟩,Pv (i+1),λσ' H' p'=>⟨xs.length - (i+1),by lia,rfl,hlt,p'⟩,λx H' y=>?_⟩
  obtain⟨e,y⟩:=y
  subst e
  exact hs i x σ _ (y xs q) p
 ·have e:i=xs.length:=by lia
  subst e
  exact .inl ⟨⟨xs,q,qek _⟩,hd σ H p⟩
theorem for_range{lo:Int}{n:Nat}{g:TG}{tb:TS}{D:qb1}{σ:St}{H:Hp}(Pv:Nat->St->Hp->Prop)(h0:Pv 0 σ H)(hs:∀i σ H,i<n->Pv i σ H->g (.int (lo+i)) σ H λσ2 H2=>tb { D with nx:=Pv (i+1),ct:=Pv (i+1),bk:=D.nx } σ2 H2)(hd:∀σ H,Pv n σ H->D.nx σ H) :
  ∃W:Nat->Nat->St->Hp->Prop,(∃m,W 0 m σ H)/\∀i m σ H,W i m σ H ->
   ((Itr lo n).stop i H/\D.nx σ H)\/((Itr lo n).go i H/\∃N:St->Hp->Prop,(∀σ' H',N σ' H'->∃m',m'<m/\W (i+1) m' σ' H')/\∀x H',(Itr lo n).yld i H x H'->g x σ H' λσ2 H2=>tb { D with nx:=N,ct:=N,bk:=D.nx } σ2 H2):=by
 refine⟨λi m σ H=>m=n - i/\i<=n/\Pv i σ H,⟨n,by simp,qf4 _,h0⟩,?_⟩
 rintro i m σ H ⟨rfl,hi,p⟩
 by_cases hlt:i<n
 ·refine .inr ⟨hlt,Pv (i+1),λσ' H' p'=>⟨n - (i+1),by lia,rfl,hlt,p'⟩,λx H' y=>?_⟩
  obtain⟨e,y⟩:=y
  subst e y
  exact hs i σ _ hlt p
 ·have e:i=n:=by lia
  subst e
  exact .inl ⟨qek _,hd σ H p⟩
abbrev R2:=V->V->Hp->VK->Prop
def OpR(X:Cx)(f:Value->Value->Sem Value)(r:R2):Prop:=
 ∀(pins:List (Addr×Obj))(s:Shared)(σ:St)(H:Hp)(x y:V)(v u:Value)(Q:VK),Inv X pins σ H s->RelV x v->RelV y u->r x y H Q ->
  wpAny (model X.prog X.w) X.A (f v u) (EP X pins σ Q) X.xe s
def UnR(X:Cx)(f:Value->Sem Value)(r:V->Hp->VK->Prop):Prop:=
 ∀(pins:List (Addr×Obj))(s:Shared)(σ:St)(H:Hp)(x:V)(v:Value)(Q:VK),Inv X pins σ H s->RelV x v->r x H Q ->
  wpAny (model X.prog X.w) X.A (f v) (EP X pins σ Q) X.xe s
def zma(X:Cx)(f:Value)(r:List V->Hp->VK->Prop):Prop:=
 ∀(pins:List (Addr×Obj))(s:Shared)(σ:St)(H:Hp)(xs:List V)(us:List Value)(Q:VK),Inv X pins σ H s->Vals xs us->r xs H Q ->
  wpAny (model X.prog X.w) X.A (call f us) (EP X pins σ Q) X.xe s
def tOp(r:R2)(ta tb:TE):TE:=λσ H Q=>ta σ H λx H1=>tb σ H1 λy H2=>r x y H2 Q
def tUn(r:V->Hp->VK->Prop)(ta:TE):TE:=λσ H Q=>ta σ H λx H1=>r x H1 Q
def rI(C:Int->Int->Prop)(g:Int->Int->V):R2:=λx y H Q=>∃i j,x=.int i/\y=.int j/\C i j/\Q (g i j) H
def rI0(g:Int->Int->V):R2:=λx y H Q=>∃i j,x=.int i/\y=.int j/\Q (g i j) H
def rU(g:Int->V):V->Hp->VK->Prop:=λx H Q=>∃i,x=.int i/\Q (g i) H
section
variable{X:Cx}{a b c:Expr}{ta tb tc:TE}{pos:Pos}
theorem binT(ha:PE X a ta)(hb:PE X b tb){pins:List (Addr×Obj)}{s:Shared}{σ:St}{H:Hp}{R:V->V->Hp->Prop}(I:Inv X pins σ H s)(h:ta σ H λx H1=>tb σ H1 λy H2=>R x y H2){Q:Value->Shared->Prop}{f:Value->Value->Sem Value}(hf:∀v u s2 x y H2,Inv X pins σ H2 s2->RelV x v->RelV y u->R x y H2->wpAny (model X.prog X.w) X.A (f v u) Q X.xe s2) :
  wpAny (model X.prog X.w) X.A (eval a X.env) (λv s₁=>wpAny (model X.prog X.w) X.A (eval b X.env) (λu s₂=>wpAny (model X.prog X.w) X.A (f v u) Q X.xe s₂) X.xe s₁) X.xe s:=by
 refine thn (ha pins s σ H _ I h) λv s1 ⟨x,H1,I1,r1,q1⟩=>?_
 refine thn (hb pins s1 σ H1 _ I1 q1) λu s2 ⟨y,H2,I2,r2,q2⟩=>?_
 exact hf v u s2 x y H2 I2 r1 r2 q2
theorem zbc{op:Operator}{r:R2}(ho:OpR X (binaryOp op) r)(ha:PE X a ta)(hb:PE X b tb):PE X (.BinOp a op b pos) (tOp r ta tb):=by
 intro pins s σ H Q I h
 exact wpAny_BinOp (binT ha hb I h λv u s2 x y H2 I2 rx ry q=>ho pins s2 σ H2 x y v u Q I2 rx ry q)
theorem zud{op:UnaryOp}{r:V->Hp->VK->Prop}(ho:UnR X (unaryOp op) r)(ha:PE X a ta):PE X (.UnaryOp op a pos) (tUn r ta):=by
 intro pins s σ H Q I h
 exact UnaryOp_ (thn (ha pins s σ H _ I h) λv s1 ⟨x,H1,I1,r1,q1⟩=>ho pins s1 σ H1 x v Q I1 r1 q1)
theorem opI{f:Value->Value->Sem Value}{C:Int->Int->Prop}{g:Int->Int->Int}(rule:∀(i j:Int) (t u:Tok) (s:Shared) (Q:Value->Shared->Prop) (E:Value->Shared->Prop),C i j->Q (.int (g i j) s.toks) { s with toks:=s.toks+1 }->wpAny (model X.prog X.w) X.A (f (.int i t) (.int j u)) Q E s) :
  OpR X f (rI C λi j=>.int (g i j)):=by
 intro pins s σ H x y v u Q I rx ry h
 obtain⟨i,j,rfl,rfl,hc,q⟩:=h
 obtain⟨t,rfl⟩:=rx
 obtain⟨t',rfl⟩:=ry
 exact rule i j t t' s _ _ hc ⟨.int (g i j),H,I.tok _,⟨_,rfl⟩,q⟩
theorem opI0{f:Value->Value->Sem Value}{g:Int->Int->Int}(rule:∀(i j:Int) (t u:Tok) (s:Shared) (Q:Value->Shared->Prop) (E:Value->Shared->Prop),Q (.int (g i j) s.toks) { s with toks:=s.toks+1 }->wpAny (model X.prog X.w) X.A (f (.int i t) (.int j u)) Q E s) :
  OpR X f (rI0 λi j=>.int (g i j)):=by
 intro pins s σ H x y v u Q I rx ry h
 obtain⟨i,j,rfl,rfl,q⟩:=h
 obtain⟨t,rfl⟩:=rx
 obtain⟨t',rfl⟩:=ry
 exact rule i j t t' s _ _ ⟨.int (g i j),H,I.tok _,⟨_,rfl⟩,q⟩
theorem opB0{f:Value->Value->Sem Value}{g:Int->Int->Bool}(rule:∀(i j:Int) (t u:Tok) (s:Shared) (Q:Value->Shared->Prop) (E:Value->Shared->Prop),Q (.bool (g i j)) s->wpAny (model X.prog X.w) X.A (f (.int i t) (.int j u)) Q E s) :
  OpR X f (rI0 λi j=>.bl (g i j)):=by
 intro pins s σ H x y v u Q I rx ry h
 obtain⟨i,j,rfl,rfl,q⟩:=h
 obtain⟨t,rfl⟩:=rx
 obtain⟨t',rfl⟩:=ry
 exact rule i j t t' s _ _ ⟨.bl (g i j),H,I,rfl,q⟩
def CMul(i j:Int):Prop:=(-(2 ^ 64)<i/\i<2 ^ 64)\/(-(2 ^ 64)<j/\j<2 ^ 64)
theorem CMul.ok{i j:Int}(h:CMul i j):IntMulOk i j:=by
 rcases h with ⟨h1,h2⟩|⟨h1,h2⟩
 ·exact .of_left (intBits_le_64 h1 h2)
 ·exact .of_right (intBits_le_64 h1 h2)
theorem zb7:OpR X (binaryOp .Add) (rI0 λi j=>.int (i+j)):=opI0 λ_ _ _ _ _ _ _ q=>add_int q
theorem zkg:OpR X (binaryOp .Sub) (rI0 λi j=>.int (i - j)):=opI0 λ_ _ _ _ _ _ _ q=>sub_int q
theorem qbo:OpR X (binaryOp .Mult) (rI CMul λi j=>.int (i*j)):=opI λ_ _ _ _ _ _ _ hc q=>mul_int q hc.ok
theorem unI{f:Value->Sem Value}{g:Int->Int}(rule:∀(i:Int) (t:Tok) (s:Shared) (Q:Value->Shared->Prop) (E:Value->Shared->Prop),Q (.int (g i) s.toks) { s with toks:=s.toks+1 }->wpAny (model X.prog X.w) X.A (f (.int i t)) Q E s) :
  UnR X f (rU λi=>.int (g i)):=by
 intro pins s σ H x v Q I rx h
 obtain⟨i,rfl,q⟩:=h
 obtain⟨t,rfl⟩:=rx
 exact rule i t s _ _ ⟨.int (g i),H,I.tok _,⟨_,rfl⟩,q⟩
theorem zmc:UnR X (unaryOp .USub) (rU λi=>.int (-i)):=unI λ_ _ _ _ _ q=>neg_int q
end
def scal:V->V->Bool
 |.non,.non=>true|.non,.int _=>true|.int _,.non=>true|.non,.bl _=>true|.bl _,.non=>true|.non,.str _=>true|.str _,.non=>true
 |.int _,.int _=>true|.bl _,.bl _=>true|.str _,.str _=>true|.byt _,.byt _=>true
 |.int _,.str _=>true|.str _,.int _=>true|.bl _,.str _=>true|.str _,.bl _=>true
 |_,_=>false
def rEq:R2:=λx y H Q=>scal x y=true/\Q (.bl (decide (x=y))) H
def rNe:R2:=λx y H Q=>scal x y=true/\Q (.bl (!decide (x=y))) H
theorem zyj{i j:Int}:decide (V.int i=V.int j)=(i == j):=by
 rw[qfy]
 simp
theorem qbw{i j:Bool}:decide (V.bl i=V.bl j)=(i == j):=by
 rw[qfy]
 simp
theorem zyi{i j:Str}:decide (V.str i=V.str j)=(i == j):=by
 rw[qfy]
 simp
theorem zyk{i j:Array UInt8}:decide (V.byt i=V.byt j)=(i.toList == j.toList):=by
 rw[qfy]
 cases i
 cases j
 simp
section
variable{X:Cx}{a b c:Expr}{ta tb tc:TE}{pos:Pos}
theorem zbe{pins:List (Addr×Obj)}{σ:St}{H:Hp}{s:Shared}{Q:VK}{k k':Bool}(I:Inv X pins σ H s)(q:Q (.bl k) H)(e:k=k'):EP X pins σ Q (.bool k') s:=by
 subst e
 exact⟨.bl k,H,I,rfl,q⟩
theorem zed:OpR X (compareOp .Eq) rEq:=by
 intro pins s σ H x y v u Q I rx ry h
 obtain⟨hs,q⟩:=h
 cases x with
 |non=>
  cases rx
  cases y with
  |non=>cases ry;exact PySem.EqNone.eq_none_none (zbe I q (by simp))
  |bl j=>cases ry;exact PySem.EqNone.eq_none_bool (zbe I q (by simp))
  |int j=>obtain⟨t',rfl⟩:=ry;exact PySem.EqNone.eq_none_int (zbe I q (by simp))
  |str j=>obtain⟨t',rfl⟩:=ry;exact PySem.EqNone.eq_none_str (zbe I q (by simp))
  |_=>exact absurd (show false=true from hs) qex
 |bl i=>
  cases rx
  cases y with
  |non=>cases ry;exact PySem.EqNone.eq_bool_none (zbe I q (by simp))
  |bl j=>cases ry;exact eq_bool (zbe I q qbw)
  |str j=>obtain⟨t',rfl⟩:=ry;exact PySem.EqMixed.eq_bool_str (zbe I q (by simp))
  |_=>exact absurd (show false=true from hs) qex
 |int i=>
  obtain⟨t,rfl⟩:=rx
  cases y with
  |non=>cases ry;exact PySem.EqNone.eq_int_none (zbe I q (by simp))
  |int j=>obtain⟨t',rfl⟩:=ry;exact eq_int (zbe I q zyj)
  |str j=>obtain⟨t',rfl⟩:=ry;exact PySem.EqMixed.eq_int_str (zbe I q (by simp))
  |_=>exact absurd (show false=true from hs) qex
 |str i=>
  obtain⟨t,rfl⟩:=rx
  cases y with
  |non=>cases ry;exact PySem.EqNone.eq_str_none (zbe I q (by simp))
  |bl j=>cases ry;exact PySem.EqMixed.eq_str_bool (zbe I q (by simp))
  |int j=>obtain⟨t',rfl⟩:=ry;exact PySem.EqMixed.eq_str_int (zbe I q (by simp))
  |str j=>obtain⟨t',rfl⟩:=ry;exact eq_str (zbe I q zyi)
  |_=>exact absurd (show false=true from hs) qex
 |byt i=>
  obtain⟨t,rfl⟩:=rx
  cases y with
  |byt j=>obtain⟨t',rfl⟩:=ry;exact PySem.W.eq_bytes (zbe I q zyk)
  |_=>exact absurd (show false=true from hs) qex
 |_=>cases y <;> exact absurd (show false=true from hs) qex
theorem zo7:OpR X (compareOp .NotEq) rNe:=by
 intro pins s σ H x y v u Q I rx ry h
 obtain⟨hs,q⟩:=h
 cases x with
 |non=>
  cases rx
  cases y with
  |non=>cases ry;exact PySem.EqNone.ne_none_none (zbe I q (by simp))
  |bl j=>cases ry;exact PySem.EqNone.ne_none_bool (zbe I q (by simp))
  |int j=>obtain⟨t',rfl⟩:=ry;exact PySem.EqNone.ne_none_int (zbe I q (by simp))
  |str j=>obtain⟨t',rfl⟩:=ry;exact PySem.EqNone.ne_none_str (zbe I q (by simp))
  |_=>exact absurd (show false=true from hs) qex
 |bl i=>
  cases rx
  cases y with
  |non=>cases ry;exact PySem.EqNone.ne_bool_none (zbe I q (by simp))
  |bl j=>cases ry;exact ne_bool (zbe I q (congrArg not qbw))
  |str j=>obtain⟨t',rfl⟩:=ry;exact PySem.EqMixed.ne_bool_str (zbe I q (by simp))
  |_=>exact absurd (show false=true from hs) qex
 |int i=>
  obtain⟨t,rfl⟩:=rx
  cases y with
  |non=>cases ry;exact PySem.EqNone.ne_int_none (zbe I q (by simp))
  |int j=>obtain⟨t',rfl⟩:=ry;exact ne_int (zbe I q (congrArg not zyj))
  |str j=>obtain⟨t',rfl⟩:=ry;exact PySem.EqMixed.ne_int_str (zbe I q (by simp))
  |_=>exact absurd (show false=true from hs) qex
 |str i=>
  obtain⟨t,rfl⟩:=rx
  cases y with
  |non=>cases ry;exact PySem.EqNone.ne_str_none (zbe I q (by simp))
  |bl j=>cases ry;exact PySem.EqMixed.ne_str_bool (zbe I q (by simp))
  |int j=>obtain⟨t',rfl⟩:=ry;exact PySem.EqMixed.ne_str_int (zbe I q (by simp))
  |str j=>obtain⟨t',rfl⟩:=ry;exact ne_str (zbe I q (congrArg not zyi))
  |_=>exact absurd (show false=true from hs) qex
 |byt i=>
  obtain⟨t,rfl⟩:=rx
  cases y with
  |byt j=>obtain⟨t',rfl⟩:=ry;exact PySem.W.ne_bytes (zbe I q (congrArg not zyk))
  |_=>exact absurd (show false=true from hs) qex
 |_=>cases y <;> exact absurd (show false=true from hs) qex
theorem op_lt:OpR X (compareOp .Lt) (rI0 λi j=>.bl (decide (i<j))):=opB0 λ_ _ _ _ _ _ _ q=>lt_int q
theorem op_le:OpR X (compareOp .LtE) (rI0 λi j=>.bl (decide (i<=j))):=opB0 λ_ _ _ _ _ _ _ q=>le_int q
theorem zni:OpR X (compareOp .Gt) (rI0 λi j=>.bl (decide (j<i))):=opB0 λ_ _ _ _ _ _ _ q=>gt_int q
theorem op_ge:OpR X (compareOp .GtE) (rI0 λi j=>.bl (decide (j<=i))):=opB0 λ_ _ _ _ _ _ _ q=>ge_int q
theorem zaz(b:Expr){op:CmpOp}(h:op≠.In:=by decide)(h2:op≠.NotIn:=by decide):behindInMarks op b=false:=by
 have e1:(op == CmpOp.In)=false:=by cases op <;> first|rfl|exact absurd rfl h
 have e2:(op == CmpOp.NotIn)=false:=by cases op <;> first|rfl|exact absurd rfl h2
 cases b <;> simp[behindInMarks,e1,e2]
theorem zh4{op:CmpOp}{r:R2}(ho:OpR X (compareOp op) r)(ha:PE X a ta)(hb:PE X b tb)(hm:behindInMarks op b=false):PE X (.Compare a [op] [b] pos) (tOp r ta tb):=by
 intro pins s σ H Q I h
 exact wpAny_Compare1 (binT ha hb I h λv u s2 x y H2 I2 rx ry q=>ho pins s2 σ H2 x y v u Q I2 rx ry q) hm
def tTest(t:TE):TT:=λσ H Q=>t σ H λx H'=>∃k,x=.bl k/\Q k H'
theorem zas{op:CmpOp}{r:R2}(ho:OpR X (compareOp op) r)(ha:PE X a ta)(hb:PE X b tb)(hm:behindInMarks op b=false):PT X (.Compare a [op] [b] pos) (tTest (tOp r ta tb)):=by
 intro pins s σ H Q I h
 refine wpAny_isTrue_Compare1 (thn (ha pins s σ H _ I h) λv s1 ⟨x,H1,I1,r1,q1⟩=>thn (hb pins s1 σ H1 _ I1 q1) λu s2 ⟨y,H2,I2,r2,q2⟩=>
  thn (ho pins s2 σ H2 x y v u _ I2 r1 r2 q2) λc s3 ⟨z,H3,I3,r3,k,e,q3⟩=>?_) hm
 subst e
 cases r3
 exact wpAny_truthy_bool ⟨H3,I3,q3⟩
theorem zmy:(sizeLine:Nat)<2 ^ 63:=by rw[sizeLine_eq];decide
theorem zh7:OpR X (binaryOp .Add) (λx y H Q=>∃i j,x=.str i/\y=.str j/\i.length+j.length<=sizeLine/\Q (.str (i++j)) H):=by
 intro pins s σ H x y v u Q I rx ry h
 obtain⟨i,j,rfl,rfl,hz,q⟩:=h
 obtain⟨t,rfl⟩:=rx
 obtain⟨t',rfl⟩:=ry
 exact add_str (λt' tk=>⟨.str (i++j),H,I.tok _,⟨_,rfl⟩,q⟩) hz
theorem qb6{x:V}{us:List Value}(r:Vals [x] us):∃u,us=[u]/\RelV x u:=by
 cases r with
 |cons r1 r2=>cases r2;exact⟨_,rfl,r1⟩
theorem qa6:zma X (.builtin "ord") (λxs H Q=>∃x,xs=[.str x]/\x.length=1/\Q (.int (x.cps.getD 0 0:Nat)) H):=by
 intro pins s σ H xs us Q I r h
 obtain⟨x,rfl,hz,q⟩:=h
 obtain⟨u,rfl,t,rfl⟩:=qb6 r
 exact ord_of_one hz ⟨.int _,H,I.tok _,⟨_,rfl⟩,q⟩
end
structure ObjM(h:Heap)(x dx C:Addr)(mA:Str->Option Value):Prop where
 obj:h.get? x=some (qgq C dx)
 ns:h.Ns1 dx mA
 ne:dx≠x
theorem zkp{h:Heap}{dx:Addr}{mA:Str->Option Value}(n:h.Ns1 dx mA):∃od,h.get? dx=some od/\∀name,qik name od=some (mA name):=by
 obtain⟨o,es,ep,ho,hd,hk,_,hm⟩:=n
 refine⟨o,ho,λname=>?_⟩
 have e:=hm name
 unfold nsFind findBy at e
 rw[<-Array.find?_toList]at e
 unfold qik
 rw[hd]
 dsimp only
 split
 ·rename_i y q
  rw[q]at e
  exact congrArg some e
 ·rename_i q
  rw[q]at e
  have a:es.toList.any (·.refKey)=false:=by
   rw[List.any_eq_false]
   intro y hy
   obtain⟨z,t,hkey⟩:=hk y (Array.mem_toList_iff.mp hy)
   simp[DictEntry.refKey,hkey]
  have a':¬es.toList.any (·.refKey)=true:=by rw[a];exact qex
  rw[if_neg a']
  exact congrArg some e
theorem ObjM.look{h:Heap}{x dx C:Addr}{mA:Str->Option Value}(I:ObjM h x dx C mA):∃od,PySem.W.InstAt h x (qgq C dx) C (some od)/\∀name,qik name od=some (mA name):=
 let ⟨od,ho,hl⟩:=zkp I.ns
 ⟨od,⟨I.obj,rfl,rfl,ho⟩,hl⟩
section
variable{prog:Program}{w:World}{A:Around}{E:Value->Shared->Prop}{s:Shared}{K:qed}{x dx C f:Addr}{mA:Str->Option Value}{name:Str}{v:Value}
theorem qdy{expr:Bool}{Q:Value->Shared->Prop}(X:K.In s.heap)(I:ObjM s.heap x dx C mA)(hg:qh8 K C name=true)(hh:qha K C=true)(ha:qes K (.ref C) name=some none)(hv:mA name=some v)(hv':qiy v=true)(h:Q v { s with toks:=s.toks+1 }) :
  wpAny (model prog w) A (getAttr (.ref x) name expr) Q E s:=by
 obtain⟨od,J,hl⟩:=I.look
 exact PySem.W.get_value X J (qie hg).1 (qjj hh ha rfl (by rw[hl,hv])) hv' h
theorem qa3{pl:Sem Bool}{Q:Value×List Value->Shared->Prop}(X:K.In s.heap)(I:ObjM s.heap x dx C mA)(hg:qh8 K C name=true)(hf:qes K (.ref C) name=some (some (.ref f)))(ht:qhp K (.ref f)=true)(hv:mA name=none)(h:Q (.ref f,[.ref x]) s) :
  wpAny (model prog w) A (getMethod (.ref x) name pl) Q E s:=by
 obtain⟨od,J,hl⟩:=I.look
 exact PySem.W.method_fn X J (qie hg).1 (qie hg).2 hf (beq_iff_eq.mp ht) (by show (qik name od).map (·.isSome)=some false;rw[hl,hv];rfl) h
theorem qcw{ns:List Str}{Q:Unit->Shared->Prop}(X:K.In s.heap)(I:ObjM s.heap x dx C mA)(hs:qes K (.ref C) "__setattr__"=some (some (.builtin "object.__setattr__")))(hp:PySem.W.plainOver K C=true)(ht:qi9 K C name=some none)(hh:qha K C=true)(hw:PySem.Within mA ns)(hsz:ns.length<=sizeLine)(h:∀h',ObjM h' x dx C (λy=>if y=name then some v else mA y)->Heap.SameBut dx s.heap h'->Q () { s with heap:=h',toks:=s.toks+2 }) :
  wpAny (model prog w) A (setAttr (.ref x) name v) Q E s:=by
 obtain⟨od,J,hl⟩:=I.look
 refine qip X J hs (PySem.W.osa_open (s:={ s with toks:=s.toks+1 }) (r:=none) X J hp ht λb=>?_)
 obtain⟨cd,hc,hd'⟩:=PySem.W.any_some hh
 have hx:s.heap.get? x=some ⟨.ref C,some dx,.plain,#[]⟩:=I.obj
 refine wpAny_bind (wpAny_pure (wpAny_bind (wpAny_bind (wpAny_loadPart hx (wpAny_bind (PySem.W.Looks.here (s:={ s with toks:=s.toks+1 }) (qhn X hc) ?_))))))
 rw[hd']
 refine wpAny_pure (a:=some dx) (wpAny_bind (wpAny_pure (wpAny_bind ?_)))
 refine wpAny_nsSet1 (s:={ s with toks:=s.toks+1 }) I.ns λh' hn2 hs2=>?_
 obtain⟨oD,esD,epD,hoD,hdD,hcD⟩:=hn2.count (PySem.Within.cons name v hw)
 refine wpAny_bind (wpAny_lookBehind hoD (by rw[hdD];exact pastItsLine_dict (qfq hcD (by rw[qeg];lia))) ?_)
 exact wpAny_pure (h _ ⟨(hs2.2 _ (Ne.symm I.ne)).trans I.obj,hn2,I.ne⟩ hs2)
theorem qav{R:Result->Shared->Prop}{vs:List Value}{kw:List (Str×Value)}(X:K.In s.heap)(hm:qja K C=true)(hi:qes K (.ref C) "__init__"=some (some (.ref f)))(hf:PySem.W.typeIn K (.ref f)=some (.type "function"))(h:codeAny (model prog w) (A.under (.builtin "type.__call__" ⟨.ref C::vs,kw⟩)) (.call (.ref f) ⟨.ref (s.heap.objs.size+1)::vs,kw⟩) (PySem.W.InitBack (s.heap.objs.size+1) R)
   { s with heap:=(s.heap.push qga).push (qgq C s.heap.objs.size) }) :
  codeAny (model prog w) A (.call (.ref C) ⟨vs,kw⟩) R s:=by
 obtain⟨hh,g,d,t,os⟩:=s
 exact PySem.W.make_core (PySem.W.makes_of X hm) (qhc X hi) (λself=>PySem.W.bind_fn X self hf) (.inl rfl) h
end
def zmm(f:Str)(v:V):List (Str×V)->List (Str×V)
 |[]=>[(f,v)]
 |(g,x)::r=>if g=f then (g,v)::r else (g,x)::zmm f v r
theorem zgu(f g:Str)(v:V):∀fs:List (Str×V),(zmm f v fs).lookup g=if g=f then some v else fs.lookup g
 |[]=>by
  show qho g [(f,v)]=_
  by_cases h:g=f
  ·have hb:(g == f)=true:=beq_iff_eq.mpr h
   simp only[qho,hb,if_pos h]
  ·have hb:(g == f)=false:=beq_eq_false_iff_ne.mpr h
   simp only[qho,hb,if_neg h]
 |(k,x)::r=>by
  have ih:=zgu f g v r
  rw[show zmm f v ((k,x)::r)=(if k=f then (k,v)::r else (k,x)::zmm f v r) from rfl]
  by_cases hk:k=f
  ·rw[if_pos hk]
   by_cases h:g=k
   ·have hb:(g == k)=true:=beq_iff_eq.mpr h
    simp only[qho,hb,if_pos (h.trans hk)]
   ·have hb:(g == k)=false:=beq_eq_false_iff_ne.mpr h
    simp only[qho,hb,if_neg (λe:g=f=>h (e.trans hk.symm))]
  ·rw[if_neg hk]
   by_cases h:g=k
   ·have hb:(g == k)=true:=beq_iff_eq.mpr h
    simp only[qho,hb,if_neg (λe:g=f=>hk (h.symm.trans e))]
   ·have hb:(g == k)=false:=beq_eq_false_iff_ne.mpr h
    simp only[qho,hb]
    exact ih
theorem zky(f:Str)(v:V):∀fs:List (Str×V),f∈(zmm f v fs).map (·.1)/\∀g,g∈fs.map (·.1)->g∈(zmm f v fs).map (·.1)
 |[]=>⟨by simp[zmm],λg h=>by simp at h⟩
 |(k,x)::r=>by
  obtain⟨i1,i2⟩:=zky f v r
  rw[show zmm f v ((k,x)::r)=(if k=f then (k,v)::r else (k,x)::zmm f v r) from rfl]
  by_cases hk:k=f
  ·rw[if_pos hk]
   subst hk
   exact⟨by simp,λg h=>by simpa using h⟩
  ·rw[if_neg hk]
   refine⟨?_,λg h=>?_⟩
   ·rw[qfh]
    exact qfa _ i1
   ·rw[qfh]at h ⊢
    rcases qer.mp h with e|e
    ·exact qer.mpr (.inl e)
    ·exact qfa _ (i2 g e)
theorem zku(f:Str)(v:V):∀fs:List (Str×V),(zmm f v fs).length<=fs.length+1
 |[]=>by simp[zmm]
 |(k,x)::r=>by
  have ih:=zku f v r
  rw[show zmm f v ((k,x)::r)=(if k=f then (k,v)::r else (k,x)::zmm f v r) from rfl]
  by_cases hk:k=f
  ·rw[if_pos hk,qeg,qeg];lia
  ·rw[if_neg hk,qeg,qeg];lia
theorem RelO.some_of{v:V}{o:Option Value}(r:RelO (some v) o):∃u,o=some u/\RelV v u:=by
 cases o with
 |none=>exact (show False from r).elim
 |some u=>exact⟨u,rfl,r⟩
theorem RelO.none_of{o:Option Value}(r:RelO none o):o=none:=by
 cases o with
 |none=>rfl
 |some u=>exact (show False from r).elim
theorem zpm{v:V}{u:Value}(r:RelV v u):qiy u=true:=by
 cases v with
 |non=>cases (show u=Value.none from r);rfl
 |bl b=>cases (show u=Value.bool b from r);rfl
 |int i=>obtain⟨t,e⟩:=(show ∃t,u=Value.int i t from r);cases e;rfl
 |str x=>obtain⟨t,e⟩:=(show ∃t,u=Value.str x t from r);cases e;rfl
 |byt b=>obtain⟨t,e⟩:=(show ∃t,u=Value.bytes b t from r);cases e;rfl
 |flt b=>obtain⟨t,e⟩:=(show ∃t,u=Value.float b t from r);cases e;rfl
 |ref a=>cases (show u=Value.ref a from r);rfl
 |ty n=>cases (show u=Value.type n from r);rfl
section
variable{P:Program}{w:World}{H H':Hp}{h h':Heap}{a C dx:Addr}{fs fs':List (Str×V)}
theorem zrf(hok:HOk P w H h)(e:H a=some (.ins C dx fs)):∃mA,ObjM h a dx C mA/\(∀f,RelO (fs.lookup f) (mA f))/\PySem.Within mA (fs.map (·.1))/\fs.length<=1000/\H dx=some (.own a):=by
 obtain⟨d,z,ne,ob,mA,n,r,q⟩:=(show ObjOk P w H h a (.ins C dx fs) from hok a _ e)
 exact⟨mA,⟨ob,n,ne⟩,r,q,z,d⟩
end
structure Cls(K:qed)(C:Addr):Prop where
 pg:qh8 K C Str.empty=true
 hd:qha K C=true
 po:PySem.W.plainOver K C=true
 sa:qes K (.ref C) "__setattr__"=some (some (.builtin "object.__setattr__"))
theorem Cls.get{K:qed}{C:Addr}(c:Cls K C)(f:Str):qh8 K C f=true:=c.pg
def NoAttr(K:qed)(C:Addr)(f:Str):Prop:=qes K (.ref C) f=some none
theorem NoAttr.taker{K:qed}{C:Addr}{f:Str}(n:NoAttr K C f):qi9 K C f=some none:=by
 unfold qi9
 rw[show qes K (.ref C) f=some none from n]
 rfl
structure Meth(K:qed)(C:Addr)(m:Str)(f:Addr):Prop where
 at_:qes K (.ref C) m=some (some (.ref f))
 fn:qhp K (.ref f)=true
 kp:qfs K (.ref f)=true
section
variable{X:Cx}{pins:List (Addr×Obj)}{σ:St}{H:Hp}{s:Shared}{a C dx:Addr}{fs:List (Str×V)}{f:Str}{v:V}{A:Around}{E:Value->Shared->Prop}
theorem zux{b:Bool}{Q:Value->Shared->Prop}(I:Inv X pins σ H s)(e:H a=some (.ins C dx fs))(c:Cls X.K C)(n:NoAttr X.K C f)(l:fs.lookup f=some v)(h:∀u s',Inv X pins σ H s'->RelV v u->Q u s'):wpAny (model X.prog X.w) A (getAttr (.ref a) f b) Q E s:=by
 obtain⟨mA,O,r,_,_,_⟩:=zrf I.hok e
 obtain⟨u,hu,ru⟩:=RelO.some_of (v:=v) (o:=mA f) (by rw[<-l];exact r f)
 exact qdy I.kIn O (c.get f) c.hd n hu (zpm ru) (h u _ (I.tok _) ru)
theorem zif{m:Str}{g:Addr}{pl:Sem Bool}{Q:Value×List Value->Shared->Prop}(I:Inv X pins σ H s)(e:H a=some (.ins C dx fs))(c:Cls X.K C)(k:Meth X.K C m g)(l:fs.lookup m=none)(h:Q (.ref g,[.ref a]) s):wpAny (model X.prog X.w) A (getMethod (.ref a) m pl) Q E s:=by
 obtain⟨mA,O,r,_,_,_⟩:=zrf I.hok e
 have hn:mA m=none:=RelO.none_of (by rw[<-l];exact r m)
 exact qa3 I.kIn O (c.get m) k.at_ k.fn hn h
theorem zt8{y:V}{u:Value}{Q:Unit->Shared->Prop}(I:Inv X pins σ H s)(e:H a=some (.ins C dx fs))(c:Cls X.K C)(n:NoAttr X.K C f)(hl:fs.length<1000)(ry:RelV y u)(h:∀s',Inv X pins σ (upd H a (.ins C dx (zmm f y fs))) s'->Q () s'):wpAny (model X.prog X.w) A (setAttr (.ref a) f u) Q E s:=by
 obtain⟨mA,O,r,wi,_,ho⟩:=zrf I.hok e
 have hz:(fs.map (·.1)).length<=sizeLine:=by rw[qec,sizeLine_eq];lia
 refine qcw I.kIn O c.sa c.po n.taker c.hd wi hz λh' O' sb=>h _ ?_
 have hd:∃o,h'.get? dx=some o:=let ⟨o,_,_,e',_⟩:=O'.ns;⟨o,e'⟩
 refine I.write (x:=a) (e:=dx) (by rw[e];exact True.intro) (.inr ho) (λb q hb z=>(sb.2 b hb).trans z) hd ?_
 refine⟨by rw[zah O.ne];exact ho,?_,O.ne,O'.obj,_,O'.ns,λg=>?_,λg hg=>?_⟩
 ·have:=zku f y fs;lia
 ·show RelO ((zmm f y fs).lookup g) (if g=f then some u else mA g)
  rw[zgu]
  by_cases q:g=f
  ·rw[if_pos q,if_pos q];exact ry
  ·rw[if_neg q,if_neg q];exact r g
 ·by_cases q:g=f
  ·rw[q];exact (zky f y fs).1
  ·refine (zky f y fs).2 g (wi g λz=>hg ?_)
   show (if g=f then some u else mA g)=none
   rw[if_neg q];exact z
theorem Inv.made(I:Inv X pins σ H s):Inv X pins σ (upd (upd H s.heap.objs.size (.own (s.heap.objs.size+1))) (s.heap.objs.size+1) (.ins C s.heap.objs.size []))
  { s with heap:=(s.heap.push qga).push (qgq C s.heap.objs.size) }:=by
 have e1:(s.heap.push qga).get? s.heap.objs.size=some qga:=Heap.get?_push_size s.heap rfl
 have e2:((s.heap.push qga).push (qgq C s.heap.objs.size)).get? (s.heap.objs.size+1)=some (qgq C s.heap.objs.size):=by
  have:=Heap.get?_push_size (s.heap.push qga) (o:=qgq C s.heap.objs.size) rfl
  rwa [Heap.size_push]at this
 have e3:(s.heap.push qga).Ns s.heap.objs.size (λ_=>none):=⟨qga,#[],_,e1,rfl,(λe he=>absurd he (by simp)),λ_=>rfl⟩
 have I1:=I.laid (a:=s.heap.objs.size) (o:=.own (s.heap.objs.size+1)) (h':=s.heap.push qga) (t':=s.toks) (λb u q=>Heap.get?_push_of_some _ q) (qek _) ⟨_,e1⟩
 refine I1.laid (a:=s.heap.objs.size+1) (o:=.ins C s.heap.objs.size []) (t':=s.toks) (λb u q=>Heap.get?_push_of_some _ q) (qg5 (Heap.size_push _ _)) ?_
 have ne:s.heap.objs.size≠s.heap.objs.size+1:=qe9 (qiz _)
 refine⟨by rw[zah ne,zad],qf4 _,ne,e2,λ_=>none,(Heap.Ns1.of_empty e3).at λo q=>Heap.get?_push_of_some _ q,λ_=>True.intro,λy hy=>absurd rfl hy⟩
theorem zyv{prog:Program}{w:World}{env:Env}{e:Expr}{f:Str}{pos:Pos}{s:Shared}{Q:Value->Shared->Prop}(hb:attributeBase e f env (eval e env)=eval e env)(h:wpAny (model prog w) A (eval e env) (λo s₁=>wpAny (model prog w) A (getAttr o f true) Q E s₁) E s):wpAny (model prog w) A (eval (.Attribute e f pos) env) Q E s:=
 Attribute_any_ h (by rw[arm_eval_Attribute,hb])
end
def tFld(K:qed)(ta:TE)(f:Str):TE:=λσ H Q=>ta σ H λx H1=>∃a C dx fs v,x=.ref a/\H1 a=some (.ins C dx fs)/\Cls K C/\NoAttr K C f/\fs.lookup f=some v/\Q v H1
def sFld(K:qed)(ta tv:TE)(f:Str):TS:=λD σ H=>tv σ H λy H1=>ta σ H1 λx H2=>∃a C dx fs,x=.ref a/\H2 a=some (.ins C dx fs)/\Cls K C/\NoAttr K C f/\fs.length<1000 ∧
 D.nx σ (upd H2 a (.ins C dx (zmm f y fs)))
section
variable{X:Cx}{o e value:Expr}{f:Str}{pos pos' tpos:Pos}{ta tv:TE}
theorem zar(he:PE X e ta)(hb:attributeBase e f X.env (eval e X.env)=eval e X.env):PE X (.Attribute e f pos) (tFld X.K ta f):=by
 intro pins s σ H Q I h
 refine zyv hb (thn (he pins s σ H _ I h) λu s1 ⟨x,H1,I1,rx,a,C,dx,fs,v,ex,ea,c,n,l,q⟩=>?_)
 subst ex
 obtain rfl:u=Value.ref a:=rx
 exact zux I1 ea c n l λu' s2 I2 ru=>⟨v,H1,I2,ru,q⟩
theorem zb6(ha:PE X o ta)(hv:PE X value tv)(hs:swapsWith value (some (.Attribute o f pos')) pos.line X.env=pure false):PS X (.Assign [.Attribute o f pos'] value pos) (sFld X.K ta tv f):=by
 intro pins s σ H D I h
 refine plainObj_wpAny_Assign_Attribute (thn (hv pins s σ H _ I h) λu s1 ⟨y,H1,I1,ry,q⟩=>thn (ha pins s1 σ H1 _ I1 q) λov s2 ⟨x,H2,I2,rx,a,C,dx,fs,ex,ea,c,n,l,q2⟩=>?_) hs
 subst ex
 obtain rfl:ov=Value.ref a:=rx
 exact zt8 I2 ea c n l ry λs3 I3=>⟨σ,_,I3,q2⟩
end
structure Room(k:Nat)(A:Around):Prop where
 hd:A.handled=none
 dp:A.depth+2*k+5<recursionLimit
 un:A.units+16*k+200<cLine
theorem Room.mono{j k:Nat}{A:Around}(r:Room k A)(h:j<=k):Room j A:=⟨r.hd,by have:=r.dp;lia,by have:=r.un;lia⟩
theorem Room.deeper{k:Nat}{A:Around}(r:Room (k+1) A)(env:Env):Room k (A.deeper env):=
 ⟨r.hd,by have:=r.dp;show A.depth+1+2*k+5<_;lia,by have:=r.un;show A.units+3+16*k+200<_;lia⟩
theorem zus{A:Around}{C:Addr}{us:List Value}{kw:List (Str×Value)}:(A.under (.builtin "type.__call__" ⟨.ref C::us,kw⟩)).depth=A.depth+1:=by
 first|rfl|simp[Around.under,Code.weight,Code.isCreation,Code.isGuard,Code.isCaller,Code.frames,Code.isFrame,guardIds]
theorem zur{A:Around}{C:Addr}{us:List Value}{kw:List (Str×Value)}:(A.under (.builtin "type.__call__" ⟨.ref C::us,kw⟩)).units=A.units+1:=by
 first|rfl|simp[Around.under,Code.cUnits,Code.frames,Code.isFrame]
theorem Room.make{k:Nat}{A:Around}(r:Room (k+1) A)(C:Addr)(us:List Value)(kw:List (Str×Value)):Room k (A.under (.builtin "type.__call__" ⟨.ref C::us,kw⟩)):=
 ⟨r.hd,by have:=r.dp;rw[zus];lia,by have:=r.un;rw[zur];lia⟩
theorem Room.depth{k:Nat}{A:Around}(r:Room k A):A.depth<recursionLimit:=by have:=r.dp;lia
theorem Room.units{k:Nat}{A:Around}(r:Room k A):A.units+64<cLine:=by have:=r.un;lia
def qca:TA:=λ_ H Q=>Q [] H
def zzf(ta:TE)(tr:TA):TA:=λσ H Q=>ta σ H λx H1=>tr σ H1 λxs H2=>Q (x::xs) H2
section
variable{X:Cx}{e:Expr}{es:List Expr}{te:TE}{t:TA}{pos:Pos}
theorem zae:PA X [] qca:=λ_ _ _ _ H Q I h=>Calls.spliced_nil ⟨[],H,I,.nil,h⟩
theorem zaa(ha:PE X e te)(hr:PA X es t)(hs:starEach (e::es) X.env=(false,eval e X.env)::starEach es X.env:=by rfl):PA X (e::es) (zzf te t):=by
 intro pos pins s σ H Q I h
 rw[hs]
 show wpAny _ _ (spliced ((false,eval e X.env)::backTo pos (starEach es X.env))) _ _ s
 refine Calls.spliced_cons (thn (ha pins s σ H _ I h) λu s1 ⟨x,H1,I1,r1,q1⟩=>?_)
 exact thn (hr pos pins s1 σ H1 _ I1 q1) λus s2 ⟨xs,H2,I2,r2,q2⟩=>⟨x::xs,H2,I2,.cons r1 r2,q2⟩
def tTup(t:TA):TE:=λσ H Q=>t σ H λxs H1=>xs.length<=sizeLine/\∀p,H1 p=none->Q (.ref p) (upd H1 p (.tup xs))
def tLst(t:TA):TE:=λσ H Q=>t σ H λxs H1=>xs.length<=sizeLine/\∀p,H1 p=none->Q (.ref p) (upd H1 p (.lst xs))
theorem zkd{x1}(h:PA X es t):PE X (.Tuple es x1 pos) (tTup t):=by
 intro pins s σ H Q I hq
 refine wpAny_Tuple_spliced (thn (h pos pins s σ H _ I hq) λus s1 ⟨xs,H1,I1,r,z,q⟩=>⟨by rw[<-r.length];exact z,?_⟩)
 have hf:H1 s1.heap.objs.size=none:=I1.hok.fresh (qek _)
 refine⟨.ref s1.heap.objs.size,upd H1 s1.heap.objs.size (.tup xs),I1.laid (t':=s1.toks) (λb u e=>Heap.get?_push_of_some _ e) (qek _) ?_,rfl,q _ hf⟩
 exact⟨z,us,r,⟨_,Heap.get?_push_size _ rfl,rfl,_,rfl⟩⟩
theorem zbx(h:PA X es t):PE X (.List es pos) (tLst t):=by
 intro pins s σ H Q I hq
 refine wpAny_List_spliced (thn (h pos pins s σ H _ I hq) λus s1 ⟨xs,H1,I1,r,z,q⟩=>⟨by rw[<-r.length];exact z,?_⟩)
 have hf:H1 s1.heap.objs.size=none:=I1.hok.fresh (qek _)
 refine⟨.ref s1.heap.objs.size,upd H1 s1.heap.objs.size (.lst xs),I1.laid (t':=s1.toks) (λb u e=>Heap.get?_push_of_some _ e) (qek _) ?_,rfl,q _ hf⟩
 exact⟨z,us,0,r,Heap.get?_push_size _ rfl⟩
end
abbrev Sp:=List V->Hp->VK->XK->Prop
abbrev CXT:=List Env->Hp->Shared->XK->Value->Shared->Prop
structure Env0(P:Program)(w:World)(K:qed)(mg:Str->Option Value)(base:Heap)(A:Around)(outer:List Env)(s:Shared)(H:Hp):Prop where
 frames:A.frames=some outer
 mod:Mod K mg base
 bs:∀b o,base.get? b=some o->s.heap.get? b=some o/\H b=none
 bsz:base.objs.size<=s.heap.objs.size
 funs:s.heap.FunFrames base outer
 frf:∀b∈frs outer,H b=none
 hok:HOk P w H s.heap
 bare:AllBare s.gens
def CE(outer:List Env)(P:Program)(w:World)(H:Hp)(s:Shared)(Q:VK)(u:Value)(s':Shared):Prop:=
 ∃v H',s'.os=s.os/\AllBare s'.gens/\Un (frs outer) [] H H' s.heap s'.heap/\HOk P w H' s'.heap/\RelV v u/\Q v H'
def CR(CX:CXT)(outer:List Env)(P:Program)(w:World)(H:Hp)(s:Shared)(Q:VK)(E:XK)(r:Result)(s':Shared):Prop:=
 match r with
 |.ok (.ret u)=>CE outer P w H s Q u s'
 |.ok _=>False
 |.error e=>CX outer H s E e s'
structure FnOk(P:Program)(w:World)(K:qed)(mg:Str->Option Value)(base:Heap)(CX:CXT)(k:Nat)(f:Addr)(fd:FuncData)(ps:List Str)(sp:Sp):Prop where
 len:∀vs H Q E,sp vs H Q E->vs.length=ps.length
 run:∀(A:Around)(outer:List Env)(s:Shared)(H:Hp)(args:Args)(us:List Value)(vs:List V)(Q:VK)(E:XK),Room k A->Env0 P w K mg base A outer s H->BindsTo s fd args (ps.zip us)->Vals vs us->sp vs H Q E ->
  codeAny (model P w) A (.call (.ref f) args) (CR CX outer P w H s Q E) s
theorem FnOk.mono{P:Program}{w:World}{K:qed}{mg:Str->Option Value}{base:Heap}{CX:CXT}{j k:Nat}{f:Addr}{fd:FuncData}{ps:List Str}{sp:Sp}(F:FnOk P w K mg base CX j f fd ps sp)(h:j<=k) :
  FnOk P w K mg base CX k f fd ps sp:=⟨F.len,λA outer s H args us vs Q E hr=>F.run A outer s H args us vs Q E (hr.mono h)⟩
theorem FnOk.imp{P:Program}{w:World}{K:qed}{mg:Str->Option Value}{base:Heap}{CX:CXT}{k:Nat}{f:Addr}{fd:FuncData}{ps:List Str}{sp sp':Sp}(F:FnOk P w K mg base CX k f fd ps sp)(h:∀vs H Q E,sp' vs H Q E->sp vs H Q E):FnOk P w K mg base CX k f fd ps sp':=
 ⟨λvs H Q E q=>F.len vs H Q E (h _ _ _ _ q),λA outer s H args us vs Q E hr he hb hv hs=>F.run A outer s H args us vs Q E hr he hb hv (h _ _ _ _ hs)⟩
theorem Env0.make{P:Program}{w:World}{K:qed}{mg:Str->Option Value}{base:Heap}{A:Around}{outer:List Env}{s:Shared}{H:Hp}(e:Env0 P w K mg base A outer s H)(C:Addr)(us:List Value)(kw:List (Str×Value)) :
  Env0 P w K mg base (A.under (.builtin "type.__call__" ⟨.ref C::us,kw⟩)) outer s H:=⟨by first|exact e.frames|(simpa [Around.under,Code.envs,Code.isFrame,pushEnvs] using e.frames),e.mod,e.bs,e.bsz,e.funs,e.frf,e.hok,e.bare⟩
section
variable{X:Cx}{pins:List (Addr×Obj)}{σ:St}{H:Hp}{s s':Shared}
theorem Inv.env0(I:Inv X pins σ H s):Env0 X.prog X.w X.K X.mg X.base X.A X.stack s H:=
 ⟨I.ok.frames,I.ok.mod,I.bs,qfq I.ok.bsz I.sz,I.stack,I.stkFree,I.hok,I.bare⟩
theorem Inv.after{Q:VK}{u:Value}(I:Inv X pins σ H s)(h:CE X.stack X.prog X.w H s Q u s'):EP X pins σ Q u s':=by
 obtain⟨v,H',os,bare,un,hok,r,q⟩:=h
 obtain⟨hh,g,d,t,os'⟩:=s'
 obtain rfl:os'=s.os:=os
 exact⟨v,H',I.call (h':=hh) (g':=g) (d':=d) (t':=t) (ch:=[]) un hok bare (λb z=>absurd z (by simp)),r,q⟩
end
def tCall(sp:Sp)(dvs:List V)(E:XK)(t:TA):TE:=λσ H Q=>t σ H λvs H1=>sp (vs++dvs) H1 Q E
def Binds(K:qed)(fd:FuncData)(ps:List Str)(ds:List Value):Prop:=
 ∀(s:Shared)(us:List Value),K.In s.heap->(us++ds).length=ps.length->BindsTo s fd ⟨us,[]⟩ (ps.zip (us++ds))
theorem Binds.all{K:qed}{fd:FuncData}{ps:List Str}(h:∀us:List Value,us.length=ps.length->bindArgs fd ⟨us,[]⟩=pure (ps.zip us)):Binds K fd ps []:=λs us _ hl=>by
 rw[qfe]at hl ⊢
 exact .of_eq (h us hl)
def zts(CX:CXT)(X:Cx)(E:XK):Prop:=∀(pins:List (Addr×Obj))(σ:St)(H:Hp)(s:Shared)(e:Value)(s':Shared),Inv X pins σ H s->CX X.stack H s E e s'->X.xe e s'
section
variable{X:Cx}{CX:CXT}{k:Nat}{f C:Addr}{fd:FuncData}{ps:List Str}{sp:Sp}{dvs:List V}{ds:List Value}{E:XK}{x m:Str}{p pos apos:Pos}{e o:Expr}{es:List Expr}{ta:TE}{t:TA}
theorem zmj{pins:List (Addr×Obj)}{σ:St}{H:Hp}{s:Shared}{Q:VK}{us:List Value}{vs:List V}(F:FnOk X.prog X.w X.K X.mg X.base CX k f fd ps sp)(hr:Room k X.A)(hb:Binds X.K fd ps ds)(hd:Vals dvs ds)(hx:zts CX X E)(I:Inv X pins σ H s)(r:Vals vs us)(h:sp (vs++dvs) H Q E):wpAny (model X.prog X.w) X.A (call (.ref f) us) (EP X pins σ Q) X.xe s:=by
 have r2:Vals (vs++dvs) (us++ds):=r.append hd
 have hl:(us++ds).length=ps.length:=by rw[<-r2.length];exact F.len _ _ _ _ h
 refine wpAny_call (codeAny_mono (F.run X.A X.stack s H ⟨us,[]⟩ (us++ds) (vs++dvs) Q E hr I.env0 (hb s us I.kIn hl) r2 h) λr s' hq=>?_)
 cases r with
 |error e=>exact hx pins σ H s e s' I hq
 |ok fl=>
  cases fl with
  |ret u=>exact I.after hq
  |next=>exact False.elim hq
  |brk=>exact False.elim hq
  |cont=>exact False.elim hq
structure Mk(K:qed)(C f:Addr):Prop where
 makes:qja K C=true
 init:qes K (.ref C) "__init__"=some (some (.ref f))
 fn:qhp K (.ref f)=true
 kp:qfs K (.ref C)=true
theorem zzv{pins:List (Addr×Obj)}{σ:St}{H:Hp}{s:Shared}{Q:VK}{us:List Value}{vs:List V}(M:Mk X.K C f)(F:FnOk X.prog X.w X.K X.mg X.base CX k f fd ps sp)(hr:Room (k+1) X.A)(hb:Binds X.K fd ps ds)(hd:Vals dvs ds)(hx:zts CX X E)(I:Inv X pins σ H s)(r:Vals vs us)(h:∀x dx,H x=none->H dx=none->dx≠x->sp (.ref x::(vs++dvs)) (upd (upd H dx (.own x)) x (.ins C dx [])) (λv H2=>v=.non/\Q (.ref x) H2) E) :
  wpAny (model X.prog X.w) X.A (call (.ref C) us) (EP X pins σ Q) X.xe s:=by
 have hq:=h (s.heap.objs.size+1) s.heap.objs.size (I.hok.fresh (qjv _)) (I.hok.fresh (qek _)) (qe9 (qiz _))
 have I2:=Inv.made (C:=C) I
 have r2:Vals (V.ref (s.heap.objs.size+1)::(vs++dvs)) (Value.ref (s.heap.objs.size+1)::(us++ds)):=.cons rfl (r.append hd)
 have hl:(Value.ref (s.heap.objs.size+1)::us++ds).length=ps.length:=by
  have e:=r2.length
  rw[F.len _ _ _ _ hq]at e
  exact e.symm
 refine wpAny_call (qav (f:=f) I.kIn M.makes M.init (beq_iff_eq.mp M.fn) (codeAny_mono (F.run _ X.stack _ _ ⟨Value.ref (s.heap.objs.size+1)::us,[]⟩ (Value.ref (s.heap.objs.size+1)::(us++ds)) _ _ E (hr.make C us [])
  (I2.env0.make C us []) (hb _ (Value.ref (s.heap.objs.size+1)::us) I2.kIn hl) r2 hq) λr s' hq'=>?_))
 cases r with
 |error e=>exact hx pins σ _ _ e s' I2 hq'
 |ok fl=>
  cases fl with
  |ret u=>
   obtain⟨v,H',I3,rv,ev,q3⟩:=I2.after hq'
   subst ev
   exact⟨rv,⟨V.ref (s.heap.objs.size+1),H',I3,rfl,q3⟩⟩
  |next=>exact False.elim hq'
  |brk=>exact False.elim hq'
  |cont=>exact False.elim hq'
end
structure zak(N P:List Str)(sc:Scope):Prop where
 kind:sc.kind=.function
 co:sc.isCoroutine=false
 gen:sc.isGenerator=false
 nd:N.Nodup
 pre:N.take P.length=P
 par:∀x∈P,sc.names.lookup x=some .local\/sc.names.lookup x=some .cell
 nofree:∀y∈sc.names,y.2≠.free
theorem zp2{kindOf:Str->Option NameKind}{x:Str}:∀{binds:List (Str×Value)}{m:Str->Option Value},(∀v,(x,v) ∉ binds)->bindL kindOf binds m x=m x
 |[],_,_=>rfl
 |(n,v)::r,m,h=>by
  unfold bindL
  rw[zp2 λw hw=>h w (qfa _ hw)]
  split
  ·have:x≠n:=by rintro rfl;exact h v qfw
   simp[this]
  ·rfl
theorem zp4{kindOf:Str->Option NameKind}{x:Str}:∀{binds:List (Str×Value)}{m:Str->Option Value},(∀v,(x,v) ∉ binds)->bindC kindOf binds m x=m x
 |[],_,_=>rfl
 |(n,v)::r,m,h=>by
  unfold bindC
  rw[zp4 λw hw=>h w (qfa _ hw)]
  split
  ·rfl
  ·have:x≠n:=by rintro rfl;exact h v qfw
   simp[this]
theorem zp3{kindOf:Str->Option NameKind}{x:Str}{v:Value}:∀{P:List Str}{vs:List Value}{i:Nat}{m:Str->Option Value},P.Nodup->P[i]?=some x->vs[i]?=some v->kindOf x=some .local ->
  bindL kindOf (P.zip vs) m x=some v
 |[],_,_,_,_,h,_,_=>by simp at h
 |_::_,[],_,_,_,_,h,_=>by simp at h
 |p::P,w::vs,0,m,nd,h1,h2,hk=>by
  simp at h1 h2;subst h1;subst h2
  show bindL kindOf ((p,w)::P.zip vs) m p=_
  unfold bindL
  rw[zp2 λv hv=>(qgz.mp nd).1 (qid hv).1,if_pos hk]
  simp
 |p::P,w::vs,i+1,m,nd,h1,h2,hk=>by
  show bindL kindOf ((p,w)::P.zip vs) m x=_
  unfold bindL
  exact zp3 (i:=i) (qgz.mp nd).2 (by simpa using h1) (by simpa using h2) hk
theorem zp5{kindOf:Str->Option NameKind}{x:Str}{v:Value}:∀{P:List Str}{vs:List Value}{i:Nat}{m:Str->Option Value},P.Nodup->P[i]?=some x->vs[i]?=some v->kindOf x≠some .local ->
  bindC kindOf (P.zip vs) m x=some v
 |[],_,_,_,_,h,_,_=>by simp at h
 |_::_,[],_,_,_,_,h,_=>by simp at h
 |p::P,w::vs,0,m,nd,h1,h2,hk=>by
  simp at h1 h2;subst h1;subst h2
  show bindC kindOf ((p,w)::P.zip vs) m p=_
  unfold bindC
  rw[zp4 λv hv=>(qgz.mp nd).1 (qid hv).1,if_neg hk]
  simp
 |p::P,w::vs,i+1,m,nd,h1,h2,hk=>by
  show bindC kindOf ((p,w)::P.zip vs) m x=_
  unfold bindC
  exact zp5 (i:=i) (qgz.mp nd).2 (by simpa using h1) (by simpa using h2) hk
def zh1(N:List Str)(vs:List V):St:=vs.map some++qem (N.length - vs.length) none
def zu4(CX:CXT)(P:Program)(w:World)(K:qed)(mg:Str->Option Value)(base:Heap)(N:List Str)(qual:Str)(scope:Scope)(f:Addr)(cd:Value)(A:Around)(outer:List Env)(s:Shared)(H:Hp)(E:XK):Cx where
 prog:=P
 w:=w
 K:=K
 mg:=mg
 base:=base
 A:=A.deeper (envOfC qual scope s.heap.objs.size f cd)
 N:=N
 s₀:=s
 H₀:=H
 env:=envOfC qual scope s.heap.objs.size f cd
 outer:=outer
 stack:=envOfC qual scope s.heap.objs.size f cd::outer
 ex:=[]
 calm:=true
 fn:=λ_=>true
 pn:=[]
 xe:=λe s'=>wpAny (model P w) (A.deeper (envOfC qual scope s.heap.objs.size f cd)) (leaving (envOfC qual scope s.heap.objs.size f cd) e) (λ_ s''=>CX outer H s E e s'') (λe' s''=>CX outer H s E e' s'') s'
theorem ztq{sc:Scope}{n:Nat}{x:Str}(h:sc.names.lookup x=some .cell):∃c,(cellsFrom n sc.names []).lookup x=some c:=by
 have q:=qi2 sc.names n [] (.inl h)
 exact qiq.mp q
theorem zx3{CX:CXT}{P:Program}{w:World}{K:qed}{mg:Str->Option Value}{base:Heap}{N ps:List Str}{qual:Str}{scope:Scope}{f:Addr}{cd:Value}{A:Around}{outer:List Env}{s s1:Shared}{H:Hp}{E:XK}{us:List Value}{vs:List V}(S:zak N ps scope)(hd:A.handled=none)(e0:Env0 P w K mg base A outer s H)(hl:vs.length=ps.length)(r:Vals vs us)(x:InCallC s s.heap.objs.size (bindL (envOfC qual scope s.heap.objs.size f cd).kindOf (ps.zip us) λ_=>none) (cellsFrom (s.heap.objs.size+1) scope.names []) (bindC (envOfC qual scope s.heap.objs.size f cd).kindOf (ps.zip us) λ_=>none) s1) :
  Inv (zu4 CX P w K mg base N qual scope f cd A outer s H E) [] (zh1 N vs) H s1:=by
 have hpl:ps.length<=N.length:=by have:=congrArg qg4 S.pre;rw[qe2]at this;lia
 obtain⟨h1,tk,rfl,hk⟩:=x.done
 have noA:∀b:Addr,b ∉ (zu4 CX P w K mg base N qual scope f cd A outer s H E).ex:=λb z=>absurd (show b∈([]:List Addr) from z) (by simp)
 refine⟨⟨e0.mod,S.kind,rfl,rfl,qek _,λy z c h1 h2=>?_,λy hy=>?_,λy c _ h=>?_,λ_=>hd,Around.frames_deeper e0.frames,.inr ⟨rfl,rfl⟩,λb z=>absurd z (noA b),e0.bs,e0.bsz,λb _ _=>noA b,λb z=>absurd z (noA b),e0.funs,e0.frf⟩,
  rfl,e0.bare,Un.kept hk,⟨_,x.toInCall.ns,λi y v h1 h2 h3=>?_⟩,λy c h=>⟨_,x.cell y c h⟩,e0.hok.fresh (qek _),λy c h=>?_,λp hp=>absurd (show p∈([]:List (Addr×Obj)) from hp) (by simp),e0.hok.kept hk,?_⟩
 ·exact name_of_addr x.apart (PySem.mem_of_lookup h1) (PySem.mem_of_lookup h2)
 ·have hy:scope.names.lookup y=some .cell\/scope.names.lookup y=some .free:=hy
  rcases hy with hy|hy
  ·exact ztq hy
  ·exact absurd rfl (S.nofree _ (PySem.mem_of_lookup hy))
 ·exact qjq (x.above y c (PySem.mem_of_lookup h))
 ·have hi:i<vs.length:=by
   unfold zh1 at h2
   by_cases hi:i<vs.length
   ·exact hi
   ·rw[qge (by simpa using hi)]at h2
    rw[qg0]at h2
    split at h2 <;> cases h2
  have ha:vs[i]?=some v:=by
   unfold zh1 at h2
   rw[qil (by simpa using hi),qeh]at h2
   cases e:vs[i]? with
   |none=>rw[e]at h2;cases h2
   |some a=>rw[e]at h2;cases h2;rfl
  obtain⟨u,hu,rv⟩:=r.get ha
  have hp:ps[i]?=some y:=by
   rw[<-S.pre,List.getElem?_take_of_lt (by lia)];exact h1
  have ndP:ps.Nodup:=by rw[<-S.pre];exact S.nd.sublist (List.take_sublist _ _)
  refine⟨u,rv,?_⟩
  rcases S.par y (qe7 hp) with k|k
  ·exact .inl ⟨k,zp3 ndP hp hu k⟩
  ·obtain⟨c,e⟩:=ztq (n:=s.heap.objs.size+1) k
   refine .inr ⟨.inl k,c,e,?_⟩
   have q:=x.cell y c e
   rw[zp5 ndP hp hu (by show scope.names.lookup y≠_;rw[k];decide)]at q
   exact q
 ·exact e0.hok.fresh (qjq (x.above y c (PySem.mem_of_lookup h)))
 ·unfold zh1
  show _=N.length
  rw[qee,qec,qh2]
  lia
theorem fn_of{CX:CXT}{P:Program}{w:World}{K:qed}{mg:Str->Option Value}{base:Heap}{k:Nat}{f:Addr}{name qual:Str}{params:Arguments}{body:List Stmt}{scope:Scope}{dV kV doc pm cdv ct oc:Value}{an od:Option Addr}{osl:Array (Option Value)}{N ps:List Str}{sp:Sp}(lk:K.lookup f=some ⟨oc,od,.func (qfr name qual params body scope dV kV doc pm an cdv ct),osl⟩)(hcd:qgj K cdv qual=true)(S:zak N ps scope)(len:∀vs H Q E,sp vs H Q E->vs.length=ps.length)(hbody:∀(A:Around) (outer:List Env) (s:Shared) (H:Hp) (vs:List V) (Q:VK) (E:XK),Room k (A.deeper (envOfC qual scope s.heap.objs.size f cdv))->sp vs H Q E ->
   ∃t,PSs (zu4 CX P w K mg base N qual scope f cdv A outer s H E) body t/\t { nx:=λ_ H'=>Q .non H',rt:=Q } (zh1 N vs) H) :
  FnOk P w K mg base CX (k+1) f (qfr name qual params body scope dV kV doc pm an cdv ct) ps sp:=by
 refine⟨len,λA outer s H args us vs Q E hr e0 hb r hsp=>?_⟩
 have hl:=len _ _ _ _ hsp
 have KX:K.In s.heap:=e0.mod.kin.keeps λb o e=>(e0.bs b o e).1
 have lim:s.heap.NoLimit:=e0.mod.nolimit.keeps λb o e=>(e0.bs b o e).1
 have hkind:∀y∈ps.zip us,scope.names.lookup y.1=some .local\/(scope.names.lookup y.1=some .cell/\((cellsFrom (s.heap.objs.size+1) scope.names []).lookup y.1).isSome=true):=λ⟨n,v⟩ hy=>by
  rcases S.par n (qid hy).1 with q|q
  ·exact .inl q
  ·exact .inr ⟨q,qi2 _ _ _ (.inl q)⟩
 refine codeAny_call_function hr.depth (KX _ _ lk) rfl S.co S.gen rfl (PySem.W.codeRec_of KX hcd) (hb _ _ _ _ ?_)
 refine wpAny_newFunctionEnv_cells S.kind hkind λenv he s1 x=>?_
 subst he
 refine⟨lim.keeps x.toInCall.keep,codeAny_func ?_⟩
 obtain⟨t,ht,hq⟩:=hbody A outer s H vs Q E (hr.deeper _) hsp
 have I:Inv (zu4 CX P w K mg base N qual scope f cdv A outer s H E) [] (zh1 N vs) H s1:=zx3 S hr.hd e0 hl r x
 refine wpAny_mono (ht [] s1 (zh1 N vs) H _ I hq) (λfl s' hs=>?_) λe s' hs=>hs
 have fin:∀{σ':St}{H':Hp}{v:V}{u:Value},Inv (zu4 CX P w K mg base N qual scope f cdv A outer s H E) [] σ' H' s'->RelV v u->Q v H'->CE outer P w H s Q u s':=
  λ{σ' H' v u} J rv q=>⟨v,H',J.os,J.bare,J.base,J.hok,rv,q⟩
 cases fl with
 |ret u=>
  obtain⟨v,σ',H',J,rv,q⟩:=hs
  exact fin J rv q
 |next=>
  obtain⟨σ',H',J,q⟩:=hs
  exact fin (v:=V.non) (u:=Value.none) J rfl q
 |brk=>
  obtain⟨_,_,_,q⟩:=hs
  exact False.elim q
 |cont=>
  obtain⟨_,_,_,q⟩:=hs
  exact False.elim q
section
variable{X:Cx}{x:Str}{p pos:Pos}{e:Expr}{es:List Expr}{t:TA}{id T:String}{r:List V->Hp->VK->Prop}
def tCB(r:List V->Hp->VK->Prop)(t:TA):TE:=λσ H Q=>t σ H λvs H1=>r vs H1 Q
theorem za3(hc:zma X (.builtin id) r)(hg:Gl X x)(hm:X.mg x=none)(hv:bootBuiltins x=some (.builtin id))(ha:PA X (e::es) t)(hn:x≠"__name__":=by decide)(hdb:(x == ("__debug__":Str))=false:=by decide)(he:starEach (e::es) X.env=(false,eval e X.env)::starEach es X.env:=by rfl)(hpl:(backTo pos (starEach es X.env)).any (·.1)=false:=by rfl):PE X (.Call (.Name x p) (e::es) [] pos) (tCB r t):=by
 intro pins s σ H Q I h
 refine wpAny_Call_Name_kw (zho I hg hm hv ?_ hn hdb)
 exact PyProof.Rows.callWith_builtin1 (thn (ha pos pins s σ H _ I h) λus s1 ⟨vs,H1,I1,r1,q1⟩=>hc pins s1 σ H1 vs us Q I1 r1 q1) he hpl
theorem zwu(hc:zma X (.type T) r)(hg:Gl X x)(hm:X.mg x=none)(hv:bootBuiltins x=some (.type T))(ha:PA X (e::es) t)(hn:x≠"__name__":=by decide)(hdb:(x == ("__debug__":Str))=false:=by decide)(he:starEach (e::es) X.env=(false,eval e X.env)::starEach es X.env:=by rfl)(hpl:(backTo pos (starEach es X.env)).any (·.1)=false:=by rfl):PE X (.Call (.Name x p) (e::es) [] pos) (tCB r t):=by
 intro pins s σ H Q I h
 refine wpAny_Call_Name_kw (zho I hg hm hv ?_ hn hdb)
 exact PyProof.Rows.callWith_type1 (thn (ha pos pins s σ H _ I h) λus s1 ⟨vs,H1,I1,r1,q1⟩=>hc pins s1 σ H1 vs us Q I1 r1 q1) he hpl
end
end L2
namespace HT
open PySem PyProof.Rows
section
variable{prog:Program}{w:World}{A:Around}{E:Value->Shared->Prop}{s:Shared}
def sIx(n d:Nat):Option Int->Nat
 |none=>d
 |some v=>if v<0 then (v+(n:Int)).toNat else min v.toNat n
theorem sIx_none(n d:Nat):sIx n d none=d:=rfl
theorem sIx_nat(n d k:Nat):sIx n d (some (k:Int))=min k n:=by
 show (if (k:Int)<0 then ((k:Int)+(n:Int)).toNat else min (k:Int).toNat n)=min k n
 rw[if_neg (by lia),Int.toNat_natCast]
theorem sIx_le(n d:Nat)(hd:d<=n)(o:Option Int):sIx n d o<=n:=by
 cases o with
 |none=>exact hd
 |some v=>
  show (if v<0 then (v+(n:Int)).toNat else min v.toNat n)<=n
  by_cases hv:v<0
  ·rw[if_pos hv];lia
  ·rw[if_neg hv];exact Nat.min_le_right _ _
end
end HT
namespace L2
open PySem PySem.Spec PyProof.Rows
abbrev TO:=St->Hp->(Option Int->Hp->Prop)->Prop
def PO(X:Cx)(e:Option Expr)(t:TO):Prop:=
 ∀(pins:List (Addr×Obj))(s:Shared)(σ:St)(H:Hp)(Q:Option Int->Hp->Prop),Inv X pins σ H s->t σ H Q ->
  wpAny (model X.prog X.w) X.A (evalPart e X.env) (λu s'=>∃o H',Inv X pins σ H' s'/\IsPart u o/\Q o H') X.xe s
def qb9:TO:=λ_ H Q=>Q none H
def tPart(t:TE):TO:=λσ H Q=>t σ H λx H1=>∃i,x=.int i/\Q (some i) H1
section
variable{X:Cx}{e:Expr}{te:TE}{lo hi:Option Expr}{tl th:TO}{pos p2:Pos}
theorem zgl:PO X none qb9:=by
 intro pins s σ H Q I h
 rw[evalPart_none]
 exact wpAny_pure ⟨none,H,I,.none,h⟩
theorem zct(h:PE X e te):PO X (some e) (tPart te):=by
 intro pins s σ H Q I hw
 rw[evalPart_some]
 refine thn (h pins s σ H _ I hw) λu s1 ⟨x,H1,I1,r1,q1⟩=>?_
 obtain⟨i,rfl,q⟩:=q1
 obtain⟨t,rfl⟩:=r1
 exact⟨some i,H1,I1,.int i t,q⟩
def SlR(X:Cx)(r:V->Option Int->Option Int->Hp->VK->Prop):Prop:=
 ∀(pins:List (Addr×Obj))(s:Shared)(σ:St)(H:Hp)(x:V)(v vl vu:Value)(lo hi:Option Int)(sl:Addr)(Q:VK),Inv X pins σ H s->RelV x v->s.heap.IsSliceOf sl vl vu .none->IsPart vl lo->IsPart vu hi->r x lo hi H Q ->
  ∃T id,typeLookup (.type T) "__getitem__"=pure (some (.builtin id))/\s.TypeIs v T/\wpAny (model X.prog X.w) X.A (getItem v (.ref sl)) (EP X pins σ Q) X.xe s
def tSl(r:V->Option Int->Option Int->Hp->VK->Prop)(te:TE)(tl th:TO):TE:=λσ H Q=>te σ H λx H1=>tl σ H1 λl H2=>th σ H2 λu H3=>r x l u H3 Q
theorem zcw{r:V->Option Int->Option Int->Hp->VK->Prop}(hr:SlR X r)(he:PE X e te)(hl:PO X lo tl)(hu:PO X hi th):PE X (.Subscript e (.Slice lo hi none p2) pos) (tSl r te tl th):=by
 intro pins s σ H Q I h
 refine Subscript_ (thn (he pins s σ H _ I h) λv s1 ⟨x,H1,I1,r1,q1⟩=>?_)
 refine wpAny_Slice (thn (hl pins s1 σ H1 _ I1 q1) λvl s2 ⟨l,H2,I2,pl,q2⟩=>thn (hu pins s2 σ H2 _ I2 q2) λvu s3 ⟨u,H3,I3,pu,q3⟩=>?_)
 rw[evalPart_none]
 refine wpAny_pure ?_
 have I4:Inv X pins σ H3 { s3 with heap:=s3.heap.push { cls:=.type "slice",data:=.fields #[vl,vu,.none] } }:=I3.kept (t':=s3.toks) λb ob q=>Heap.get?_push_of_some _ q
 obtain⟨T,id,hT,ht,hg⟩:=hr pins { s3 with heap:=s3.heap.push { cls:=.type "slice",data:=.fields #[vl,vu,.none] } } σ H3 x v vl vu l u s3.heap.objs.size Q I4 r1 (Heap.IsSliceOf.new ..) pl pu q3
 show wpAny (model X.prog X.w) X.A (subscriptTail e (.Slice lo hi none p2) v (.ref s3.heap.objs.size)) (EP X pins σ Q) X.xe { s3 with heap:=s3.heap.push { cls:=.type "slice",data:=.fields #[vl,vu,.none] } }
 exact tail_any (ops:=[.ref s3.heap.objs.size,v]) ht hT hg (by with_unfolding_all rfl)
def zpw(xs:List V)(lo hi:Option Int):List V:=(xs.drop (HT.sIx xs.length 0 lo)).take (HT.sIx xs.length xs.length hi - HT.sIx xs.length 0 lo)
theorem zro(xs:List V)(lo hi:Option Int):(zpw xs lo hi).length<=xs.length:=by
 unfold zpw
 rw[qe2,qfl]
 lia
end
def ixN(n:Nat)(i:Int):Option Nat:=if 0<=i then (if i<n then some i.toNat else none) else if -(n:Int)<=i then some (i+n).toNat else none
def atI{α:Type}(xs:List α)(i:Int):Option α:=(ixN xs.length i).bind λj=>xs[j]?
theorem zx0{n:Nat}{i:Int}{j:Nat}(h:ixN n i=some j):seqIndex? i n=some j/\j<n/\-(n:Int)<=i/\i<n:=by
 unfold ixN at h
 by_cases h0:0<=i
 ·rw[if_pos h0]at h
  by_cases h1:i<n
  ·rw[if_pos h1]at h
   have e:i.toNat=j:=qen.inj h
   exact⟨by rw[seqIndex_of h0 h1,e],by lia,by lia,h1⟩
  ·rw[if_neg h1]at h;cases h
 ·rw[if_neg h0]at h
  by_cases h1:-(n:Int)<=i
  ·rw[if_pos h1]at h
   have e:(i+n).toNat=j:=qen.inj h
   exact⟨by rw[seqIndex_neg (by lia) h1,e],by lia,h1,by lia⟩
  ·rw[if_neg h1]at h;cases h
theorem zrw{α:Type}{xs:List α}{i:Int}{v:α}(h:atI xs i=some v):∃j,seqIndex? i xs.length=some j/\xs[j]?=some v/\j<xs.length/\-(xs.length:Int)<=i/\i<xs.length:=by
 unfold atI at h
 cases e:ixN xs.length i with
 |none=>rw[e]at h;cases h
 |some j=>
  rw[e]at h
  obtain⟨h1,h2,h3,h4⟩:=zx0 e
  exact⟨j,h1,h,h2,h3,h4⟩
theorem zfr{α:Type}{xs:List α}{j:Nat}{v:α}(h:xs[j]?=some v):atI xs (j:Int)=some v:=by
 have hj:j<xs.length:=(qef.mp h).1
 have e:ixN xs.length (j:Int)=some j:=by
  unfold ixN
  rw[if_pos (by lia),if_pos (by lia)];simp
 unfold atI;rw[e];exact h
def qd7(b:Expr):Prop:=∀o i,subscripted b false o i=operate [o,i] (getItem o i)
def IxR(X:Cx)(r:R2):Prop:=
 ∀(value slice:Expr)(pins:List (Addr×Obj))(s:Shared)(σ:St)(H:Hp)(x y:V)(v u:Value)(Q:VK),Inv X pins σ H s->RelV x v->RelV y u->r x y H Q ->
  subscripted slice false v u=operate [v,u] (getItem v u)->wpAny (model X.prog X.w) X.A (subscriptTail value slice v u) (EP X pins σ Q) X.xe s
def MtR(X:Cx)(id:String)(r:V->List V->Hp->VK->Prop):Prop:=
 ∀(pins:List (Addr×Obj))(s:Shared)(σ:St)(H:Hp)(x:V)(xs:List V)(v:Value)(us:List Value)(Q:VK),Inv X pins σ H s->RelV x v->Vals xs us->r x xs H Q ->
  wpAny (model X.prog X.w) X.A (call (.builtin id) (v::us)) (EP X pins σ Q) X.xe s
section
variable{X:Cx}{a b:Expr}{ta tb:TE}{pos:Pos}
theorem zdt{r:R2}(hr:IxR X r)(ha:PE X a ta)(hb:PE X b tb)(hs:qd7 b):PE X (.Subscript a b pos) (tOp r ta tb):=by
 intro pins s σ H Q I h
 exact Subscript_ (binT ha hb I h λv u s2 x y H2 I2 rx ry q=>hr a b pins s2 σ H2 x y v u Q I2 rx ry q (hs _ _))
def rIxL(K:qed):R2:=λx y H Q=>∃p xs i v,x=.ref p/\y=.int i/\SqL K H p xs/\atI xs i=some v/\Q v H
def rIxT(K:qed):R2:=λx y H Q=>∃p xs i v,x=.ref p/\y=.int i/\SqT K H p xs/\atI xs i=some v/\Q v H
def rIxS:R2:=λx y H Q=>∃z i c,x=.str z/\y=.int i/\z.length<=sizeLine/\atI z.cps.toList i=some c/\Q (.str ⟨#[c]⟩) H
theorem zfl:IxR X (rIxL X.K):=by
 intro value slice pins s σ H x y v u Q I rx ry h hs
 obtain⟨p,xs,i,z,rfl,rfl,hq,he,q⟩:=h
 cases rx
 obtain⟨t,rfl⟩:=ry
 obtain⟨its,r,pl,hz⟩:=I.list hq
 obtain⟨j,h1,h2,h3,h4,h5⟩:=zrw he
 obtain⟨w,ew,rw'⟩:=r.get h2
 have hl:=r.length
 have hn:=zmy
 have fin:EP X pins σ Q w s:=⟨z,H,I,rw',q⟩
 by_cases h0:0<=i
 ·have hj:i.toNat=j:=by
   rw[seqIndex_of h0 h5]at h1
   exact qen.inj h1
  exact item_listR pl.isList h0 (by lia) (by rw[hj];simpa using ew) fin hs
 ·have hj:(i+(its.toArray.size:Int)).toNat=j:=by
   rw[seqIndex_neg (by lia) h4]at h1
   rw[qet,<-hl]
   exact qen.inj h1
  exact subscriptTail_builtinR (x:=w) pl.isList.typeIs slot_list_getitem.lookup
   (wpAny_getItem_list_neg (Q:=λr s'=>r=w/\EP X pins σ Q r s') pl.isList (by lia) (by rw[qet] <;> lia) (by lia) (by rw[hj];simpa using ew) ⟨rfl,fin⟩) hs
theorem zex:IxR X (rIxT X.K):=by
 intro value slice pins s σ H x y v u Q I rx ry h hs
 obtain⟨p,xs,i,z,rfl,rfl,hq,he,q⟩:=h
 cases rx
 obtain⟨t,rfl⟩:=ry
 obtain⟨its,r,pl,hz⟩:=I.tuple hq
 obtain⟨j,h1,h2,h3,h4,h5⟩:=zrw he
 obtain⟨w,ew,rw'⟩:=r.get h2
 have hl:=r.length
 have hn:=zmy
 have fin:EP X pins σ Q w s:=⟨z,H,I,rw',q⟩
 exact subscriptTail_builtinR (x:=w) pl.typeIs slot_tuple_getitem.lookup
  (getItem_tuple (j:=j) (Q:=λr s'=>r=w/\EP X pins σ Q r s') pl (by lia) (by lia) (by rw[qet,<-hl];exact h1) (by simpa using ew) ⟨rfl,fin⟩) hs
theorem qbt:IxR X rIxS:=by
 intro value slice pins s σ H x y v u Q I rx ry h hs
 obtain⟨z,i,c,rfl,rfl,hz,he,q⟩:=h
 obtain⟨t,rfl⟩:=rx
 obtain⟨t',rfl⟩:=ry
 obtain⟨j,h1,h2,h3,h4,h5⟩:=zrw he
 have hl:z.cps.toList.length=z.length:=by simp[Str.length]
 rw[hl]at h1 h4 h5
 have hn:=zmy
 exact tail_any (typeIs_str s z t) slot_str_getitem.lookup (getItem_str (c:=c) (by
  have e1:decide (i < -(2 ^ 63:Int))=false:=decide_eq_false (by lia)
  have e2:decide (i ≥ 2 ^ 63)=false:=decide_eq_false (by lia)
  rw[e1,e2,qit]) (by rw[h1];simpa using h2) ⟨.str ⟨#[c]⟩,H,I.tok _,⟨_,rfl⟩,q⟩) hs
theorem zuq(its:List Value)(n j:Nat)(u:Value):Obj.mapSeq (·.setIfInBounds j u) { cls:=.type "list",data:=.seq its.toArray n }={ cls:=.type "list",data:=.seq (its.set j u).toArray n }:=by
 simp[Obj.mapSeq]
theorem Inv.lst{pins:List (Addr×Obj)}{σ:St}{H:Hp}{s:Shared}{p:Addr}{xs:List V}(I:Inv X pins σ H s)(h:H p=some (.lst xs)) :
  ∃(its:List Value)(n:Nat),Vals xs its/\s.heap.get? p=some { cls:=.type "list",data:=.seq its.toArray n }/\xs.length<=sizeLine:=by
 obtain⟨z,its,n,r,e⟩:=I.hok p _ h
 exact⟨its,n,r,e,z⟩
theorem Inv.lstUpd{pins:List (Addr×Obj)}{σ:St}{H:Hp}{s:Shared}{p:Addr}{xs ys:List V}{its its':List Value}{n n':Nat}{f:Obj->Obj}(I:Inv X pins σ H s)(h:H p=some (.lst xs))(ho:s.heap.get? p=some { cls:=.type "list",data:=.seq its.toArray n })(hf:f { cls:=.type "list",data:=.seq its.toArray n }={ cls:=.type "list",data:=.seq its'.toArray n' })(r:Vals ys its')(hz:ys.length<=sizeLine)(t:Nat) :
  Inv X pins σ (upd H p (.lst ys)) { s with heap:=s.heap.update p f,toks:=t }:=by
 have e:(s.heap.update p f).get? p=some { cls:=.type "list",data:=.seq its'.toArray n' }:=by
  rw[Heap.get?_update_self f ho (by rw[hf] <;> rfl),hf]
 refine I.write (x:=p) (e:=p) (by rw[h];trivial) (.inl rfl) (λb u hb q=>(Heap.get?_update_other _ _ (Ne.symm hb)).trans q) ⟨_,e⟩ ?_
 exact⟨hz,its',n',r,e⟩
def rSetL:V->V->V->Hp->(Hp->Prop)->Prop:=λo i v H Q=>∃p xs k j,o=.ref p/\i=.int k/\H p=some (.lst xs)/\ixN xs.length k=some j/\Q (upd H p (.lst (xs.set j v)))
theorem zne:PSet X rSetL:=by
 intro pins s σ H o i v ov iv u Q I ro ri rv h
 obtain⟨p,xs,k,j,rfl,rfl,hp,hj,q⟩:=h
 cases ro
 obtain⟨t,rfl⟩:=ri
 obtain⟨its,n,r,ho,hz⟩:=I.lst hp
 obtain⟨h1,h2,h3,h4⟩:=zx0 hj
 have hl:=r.length
 have hn:=zmy
 have I':Inv X pins σ (upd H p (.lst (xs.set j v))) { s with heap:=s.heap.update p (Obj.mapSeq (·.setIfInBounds j u)) }:=
  I.lstUpd hp ho (zuq its n j u) (r.set rv j) (by rw[qi7];exact hz) s.toks
 by_cases h0:0<=k
 ·have hk:k.toNat=j:=by
   rw[seqIndex_of h0 h4]at h1
   exact qen.inj h1
  exact PySem.W.ki_setAt ho h0 (by lia) (by rw[qet,<-hl];exact h4) (by rw[hk];exact⟨_,I',q⟩)
 ·have hk:(k+(its.toArray.size:Int)).toNat=j:=by
   rw[seqIndex_neg (by lia) h3]at h1
   rw[qet,<-hl]
   exact qen.inj h1
  exact PySem.W.ki_setBack ho (by lia) (by rw[qet,<-hl];exact h3) (by lia) (by rw[hk];exact⟨_,I',q⟩)
theorem zom(lo hi:Option Int)(n:Nat):(sliceBounds lo hi none n).1=((HT.sIx n 0 lo:Nat):Int)/\(sliceBounds lo hi none n).2.1=((HT.sIx n n hi:Nat):Int)/\(sliceBounds lo hi none n).2.2=1:=by
 refine⟨?_,?_,rfl⟩
 ·cases lo with
  |none=>simp[sliceBounds,HT.sIx]
  |some i=>
   simp only[sliceBounds,HT.sIx,Option.getD_none,show (1:Int) > 0 by decide,if_true]
   by_cases h:i<0
   ·simp only[h,if_true] <;> lia
   ·simp only[h,if_false] <;> lia
 ·cases hi with
  |none=>simp[sliceBounds,HT.sIx]
  |some i=>
   simp only[sliceBounds,HT.sIx,Option.getD_none,show (1:Int) > 0 by decide,if_true]
   by_cases h:i<0
   ·simp only[h,if_true] <;> lia
   ·simp only[h,if_false] <;> lia
theorem znc(its:List Value)(lo hi:Option Int):slicePick its.toArray lo hi none=((its.drop (HT.sIx its.length 0 lo)).take (HT.sIx its.length its.length hi - HT.sIx its.length 0 lo)).toArray:=by
 obtain⟨h1,h2,h3⟩:=zom lo hi its.toArray.size
 unfold slicePick
 rw[h1,h2,h3]
 simp only[sliceRange_one,pick_run,qet] <;> rfl
def rSlL(K:qed):V->Option Int->Option Int->Hp->VK->Prop:=λx lo hi H Q=>∃a xs,x=.ref a/\SqL K H a xs/\∀p,H p=none->Q (.ref p) (upd H p (.lst (zpw xs lo hi)))
theorem zgj:SlR X (rSlL X.K):=by
 intro pins s σ H x v vl vu lo hi sl Q I rx hs pl pu h
 obtain⟨a,xs,rfl,hx,q⟩:=h
 cases rx
 obtain⟨its,r,ht,hz⟩:=I.list hx
 have hlen:=r.length
 refine⟨"list",_,slot_list_getitem.lookup,ht.isList.typeIs,?_⟩
 refine wpAny_getItem_list_slice ht.isList hs pl pu .none (by simp) ?_ (by rw[qet] <;> lia)
 rw[znc,<-hlen]
 refine⟨.ref s.heap.objs.size,_,I.laid (t':=s.toks) (o:=.lst (zpw xs lo hi)) (λb ob q=>Heap.get?_push_of_some _ q) (qek _) ?_,rfl,q _ (I.hok.fresh (qek _))⟩
 exact⟨qfq (zro xs lo hi) hz,_,0,(r.drop (HT.sIx xs.length 0 lo)).take (HT.sIx xs.length xs.length hi - HT.sIx xs.length 0 lo),Heap.get?_push_size _ rfl⟩
def zly:V->Bool
 |.non=>true
 |.bl _=>true
 |.int _=>true
 |.str _=>true
 |_=>false
def eqV:V->V->Bool
 |.non,.non=>true
 |.bl a,.bl b=>a == b
 |.bl a,.int b=>(if a then 1 else 0) == b
 |.int a,.bl b=>a == (if b then 1 else 0)
 |.int a,.int b=>a == b
 |.str a,.str b=>a == b
 |_,_=>false
theorem eqAt_V{A:Around}{s:Shared}{y x:V}{u v:Value}(ry:RelV y u)(rx:RelV x v)(fy:zly y=true)(fx:zly x=true):SeqAt.EqAt A s u v (eqV y x):=by
 cases y with
 |non=>
  cases ry
  cases x with
  |non=>cases rx;exact SeqAt.EqAt.same _
  |bl b=>cases rx;exact SeqAt.EqAt.none_bool b
  |int b=>obtain⟨t,rfl⟩:=rx;exact SeqAt.EqAt.none_int b t
  |str b=>obtain⟨t,rfl⟩:=rx;exact SeqAt.EqAt.none_str b t
  |_=>exact absurd (show false=true from fx) qex
 |bl a=>
  cases ry
  cases x with
  |non=>cases rx;exact SeqAt.EqAt.bool_none a
  |bl b=>cases rx;exact SeqAt.EqAt.bool_bool a b
  |int b=>obtain⟨t,rfl⟩:=rx;exact SeqAt.EqAt.bool_int a b t
  |str b=>obtain⟨t,rfl⟩:=rx;exact SeqAt.EqAt.bool_str a b t
  |_=>exact absurd (show false=true from fx) qex
 |int a=>
  obtain⟨t',rfl⟩:=ry
  cases x with
  |non=>cases rx;exact SeqAt.EqAt.int_none a t'
  |bl b=>cases rx;exact SeqAt.EqAt.int_bool a t' b
  |int b=>obtain⟨t,rfl⟩:=rx;exact SeqAt.EqAt.int_int a t' b t
  |str b=>obtain⟨t,rfl⟩:=rx;exact SeqAt.EqAt.int_str a t' b t
  |_=>exact absurd (show false=true from fx) qex
 |str a=>
  obtain⟨t',rfl⟩:=ry
  cases x with
  |non=>cases rx;exact SeqAt.EqAt.str_none a t'
  |bl b=>cases rx;exact SeqAt.EqAt.str_bool a t' b
  |int b=>obtain⟨t,rfl⟩:=rx;exact SeqAt.EqAt.str_int a t' b t
  |str b=>obtain⟨t,rfl⟩:=rx;exact SeqAt.EqAt.str_str a t' b t
  |_=>exact absurd (show false=true from fx) qex
 |_=>exact absurd (show false=true from fy) qex
def eqU(x:V)(u:Value):Bool:=match u with
 |.none=>eqV .non x
 |.bool b=>eqV (.bl b) x
 |.int i _=>eqV (.int i) x
 |.str z _=>eqV (.str z) x
 |_=>false
theorem qbu{x y:V}{u:Value}(r:RelV y u)(f:zly y=true):eqU x u=eqV y x:=by
 cases y with
 |non=>cases r;rfl
 |bl b=>cases r;rfl
 |int i=>obtain⟨t,rfl⟩:=r;rfl
 |str z=>obtain⟨t,rfl⟩:=r;rfl
 |_=>exact absurd (show false=true from f) qex
theorem zla{x:V}:∀{xs:List V}{us:List Value},Vals xs us->xs.all zly=true->us.any (eqU x)=xs.any λy=>eqV y x
 |_,_,.nil,_=>rfl
 |y::xs,u::us,.cons r t,f=>by
  rw[qg1,qev]at f
  rw[qg2,qg2,qbu r f.1,zla t f.2]
theorem zhl{A:Around}{s:Shared}{x:V}{v:Value}(rx:RelV x v)(fx:zly x=true):∀{xs:List V}{us:List Value},Vals xs us->xs.all zly=true->∀u∈us,SeqAt.EqAt A s u v (eqU x u)
 |_,_,.nil,_=>λu hu=>by cases hu
 |y::xs,u::us,.cons r t,f=>λu' hu=>by
  rw[qg1,qev]at f
  rcases qer.mp hu with rfl|hu
  ·rw[qbu r f.1];exact eqAt_V r rx f.1 fx
  ·exact zhl rx fx t f.2 u' hu
def inV(x:V)(xs:List V):Bool:=xs.any λy=>eqV y x
def rIn(K:qed)(neg:Bool):R2:=λx y H Q=>∃p xs,y=.ref p/\(SqL K H p xs\/SqT K H p xs)/\zly x=true/\xs.all zly=true/\Q (.bl (if neg then !inV x xs else inV x xs)) H
theorem zkh:OpR X (compareOp .In) (rIn X.K false):=by
 intro pins s σ H x y v u Q I rx ry h
 obtain⟨p,xs,rfl,hq,fx,fs,q⟩:=h
 cases ry
 rcases hq with hq|hq
 ·obtain⟨its,r,pl,hz⟩:=I.list hq
  refine SeqAt.in_listAt (eqU x) pl.isList (λw hw=>zhl rx fx r fs w (by simpa using hw)) ⟨.bl _,H,I,rfl,?_⟩
  rw[show its.toArray.any (eqU x)=its.any (eqU x) by simp,zla r fs]
  exact q
 ·obtain⟨its,r,pl,hz⟩:=I.tuple hq
  refine SeqAt.in_tupleAt (eqU x) pl (λw hw=>zhl rx fx r fs w (by simpa using hw)) ⟨.bl _,H,I,rfl,?_⟩
  rw[show its.toArray.any (eqU x)=its.any (eqU x) by simp,zla r fs]
  exact q
theorem zo6:OpR X (compareOp .NotIn) (rIn X.K true):=by
 intro pins s σ H x y v u Q I rx ry h
 obtain⟨p,xs,rfl,hq,fx,fs,q⟩:=h
 cases ry
 rcases hq with hq|hq
 ·obtain⟨its,r,pl,hz⟩:=I.list hq
  refine SeqAt.notIn_listAt (eqU x) pl.isList (λw hw=>zhl rx fx r fs w (by simpa using hw)) ⟨.bl _,H,I,rfl,?_⟩
  rw[show its.toArray.any (eqU x)=its.any (eqU x) by simp,zla r fs]
  exact q
 ·obtain⟨its,r,pl,hz⟩:=I.tuple hq
  refine SeqAt.notIn_tupleAt (eqU x) pl (λw hw=>zhl rx fx r fs w (by simpa using hw)) ⟨.bl _,H,I,rfl,?_⟩
  rw[show its.toArray.any (eqU x)=its.any (eqU x) by simp,zla r fs]
  exact q
theorem za7:zma X (.builtin "len") (λxs H Q=>∃p ys,xs=[.ref p]/\(SqL X.K H p ys\/SqT X.K H p ys)/\Q (.int ys.length) H):=by
 intro pins s σ H xs us Q I r h
 obtain⟨p,ys,rfl,hq,q⟩:=h
 obtain⟨u,rfl,rx⟩:=qb6 r
 cases rx
 have hn:=zmy
 rcases hq with hq|hq
 ·obtain⟨its,r',pl,hz⟩:=I.list hq
  have hlen:=r'.length
  exact Calls.call_len_list pl.isList (by simp only[qet] <;> lia) ⟨.int ys.length,H,I.tok _,⟨s.toks+1,by rw[qet,hlen]⟩,q⟩
 ·obtain⟨its,r',pl,hz⟩:=I.tuple hq
  have hlen:=r'.length
  exact len_tuple pl (by simp only[qet] <;> lia) ⟨.int ys.length,H,I.tok _,⟨s.toks+1,by rw[qet,hlen]⟩,q⟩
theorem zc2:zma X (.builtin "len") (λxs H Q=>∃z,xs=[.str z]/\z.length<=sizeLine/\Q (.int z.length) H):=by
 intro pins s σ H xs us Q I r h
 obtain⟨z,rfl,hz,q⟩:=h
 obtain⟨u,rfl,t,rfl⟩:=qb6 r
 have hn:=zmy
 exact len_str (by lia) ⟨.int z.length,H,I.tok _,⟨_,rfl⟩,q⟩
def tyV(K:qed)(T:String)(x:V)(H:Hp):Prop:=match x with
 |.str _=>T="str"
 |.int _=>T="int"
 |.ref p=>(T="list"/\∃xs,SqL K H p xs)\/(T="tuple"/\∃o,K.lookup p=some o/\o.cls=.type "tuple"/\o.dict=none) ∨
   (T="dict"/\((∃kvs,H p=some (.dK kvs))\/∃kvs,H p=some (.dT kvs)))\/(T="set"/\∃S n,H p=some (.set S n))
 |_=>False
theorem qbf{pins:List (Addr×Obj)}{σ:St}{H:Hp}{s:Shared}{T:String}{x:V}{v:Value}(I:Inv X pins σ H s)(r:RelV x v)(ty:tyV X.K T x H) :
  s.TypeIs v T/\∀a,v=.ref a->∃ob,s.heap.get? a=some ob/\ob.dict=none:=by
 cases x with
 |str z=>
  obtain⟨t,rfl⟩:=r
  cases (show T="str" from ty)
  exact⟨typeIs_str s z t,λ_ e=>nomatch e⟩
 |int i=>
  obtain⟨t,rfl⟩:=r
  cases (show T="int" from ty)
  exact⟨typeIs_int s i t,λ_ e=>nomatch e⟩
 |ref p=>
  cases r
  rcases ty with ⟨rfl,xs,hq⟩|⟨rfl,o,hk,hc,hd⟩|⟨rfl,hk⟩|⟨rfl,S,n,hk⟩
  ·obtain⟨its,_,pl,_⟩:=I.list hq
   refine⟨pl.isList.typeIs,λa e=>?_⟩
   cases e
   obtain⟨o,n,e,c,hd,_⟩:=pl
   exact⟨o,e,hd⟩
  ·refine⟨⟨o,I.kIn p o hk,hc⟩,λa e=>?_⟩
   cases e
   exact⟨o,I.kIn _ o hk,hd⟩
  ·have z:∃o,s.heap.get? p=some o/\o.ExactDict:=by
    rcases hk with ⟨kvs,hk⟩|⟨kvs,hk⟩
    ·obtain⟨_,_,_,_,o,_,_,e,ex,_⟩:=I.hok p _ hk
     exact⟨o,e,ex⟩
    ·obtain⟨_,_,_,_,o,_,_,e,ex,_⟩:=I.hok p _ hk
     exact⟨o,e,ex⟩
   obtain⟨o,e,ex⟩:=z
   refine⟨⟨o,e,ex.1⟩,λa e2=>?_⟩
   cases e2
   exact⟨o,e,ex.2.1⟩
  ·obtain⟨o,_,_,_,e,ex,_⟩:=I.hok p _ hk
   refine⟨⟨o,e,ex.1⟩,λa e2=>?_⟩
   cases e2
   exact⟨o,e,ex.2.1⟩
 |_=>exact False.elim ty
def tBM0(K:qed)(T:String)(r:V->List V->Hp->VK->Prop)(to:TE):TE:=λσ H Q=>to σ H λx H1=>tyV K T x H1/\r x [] H1 Q
def tBM(K:qed)(T:String)(r:V->List V->Hp->VK->Prop)(to:TE)(t:TA):TE:=λσ H Q=>to σ H λx H1=>tyV K T x H1/\t σ H1 λxs H2=>r x xs H2 Q
variable{o e:Expr}{es:List Expr}{to:TE}{t:TA}{name:Str}{apos cpos:Pos}{T id:String}{r:V->List V->Hp->VK->Prop}
theorem zwv(pa:PlainAttrs T)(slot:Slot T name id)(hty:typeOf (.builtin id)=pure (.type "method_descriptor"))(hm:MtR X id r)(ho:PE X o to)(hbase:attributeBase o name X.env (eval o X.env)=eval o X.env:=by rfl)(hline:(apos.endLine == cpos.line)=true:=by rfl):PE X (.Call (.Attribute o name apos) [] [] cpos) (tBM0 X.K T r to):=by
 intro pins s σ H Q I h
 refine wpAny_Call_method0_late hbase hline (thn (ho pins s σ H _ I h) λv s1 ⟨x,H1,I1,r1,ty,q1⟩=>?_)
 obtain⟨h1,h2⟩:=qbf I1 r1 ty
 exact⟨T,id,pa,slot,hty,h1,h2,Calls.callWith_builtin rfl (PySem.evalArgs_none (hm pins s1 σ H1 x [] v [] Q I1 r1 .nil q1))⟩
theorem zh5(pa:PlainAttrs T)(slot:Slot T name id)(hty:typeOf (.builtin id)=pure (.type "method_descriptor"))(hm:MtR X id r)(ho:PE X o to)(ha:PA X (e::es) t)(hbase:attributeBase o name X.env (eval o X.env)=eval o X.env:=by rfl)(hfew:((backTo cpos (starEach (e::es) X.env)).all (λx=>!x.1) && (backToKw cpos (keywordEach [] X.env)).all (λx=>x.1.isSome)
   && decide ((e::es).length+([]:List Keyword).length+(if ([]:List Keyword).isEmpty then 0 else 1)<30))=true:=by rfl)(hline:(apos.endLine == cpos.line)=true:=by rfl)(hs:starEach (e::es) X.env=(false,eval e X.env)::starEach es X.env:=by rfl)(hplain:(backTo cpos (starEach es X.env)).any (·.1)=false:=by rfl) :
  PE X (.Call (.Attribute o name apos) (e::es) [] cpos) (tBM X.K T r to t):=by
 intro pins s σ H Q I h
 refine wpAny_Call_method_late hbase hfew hline rfl (thn (ho pins s σ H _ I h) λv s1 ⟨x,H1,I1,r1,ty,q1⟩=>?_)
 obtain⟨h1,h2⟩:=qbf I1 r1 ty
 refine⟨T,id,pa,slot,hty,h1,h2,?_⟩
 have hA:=ha cpos pins s1 σ H1 _ I1 q1
 rw[hs]at hA ⊢
 refine Calls.callWith_builtin (by show (false || (backTo cpos (starEach es X.env)).any (·.1))=false;rw[hplain] <;> rfl) (Calls.evalArgs_plain ?_)
 exact thn hA λus s2 ⟨vs,H2,I2,r2,q2⟩=>hm pins s2 σ H2 x vs v us Q I2 r1 r2 q2
end
def MtM(X:Cx)(id:String)(r:V->List V->Hp->VK->Prop):Prop:=
 ∀(pins:List (Addr×Obj))(s:Shared)(σ:St)(H:Hp)(x:V)(xs:List V)(v:Value)(us:List Value)(Q:VK),Inv X pins σ H s->RelV x v->Vals xs us->r x xs H Q ->
  wpAny (model X.prog X.w) X.A (call (.builtin id) (v::us)) (EP X pins σ Q) X.xe s
theorem Vals.one:∀{x:V}{us:List Value},Vals [x] us->∃u,us=[u]/\RelV x u
 |_,_,.cons r .nil=>⟨_,rfl,r⟩
theorem Vals.zero:∀{us:List Value},Vals [] us->us=[]
 |_,.nil=>rfl
theorem Vals.dropLast{xs:List V}{us:List Value}(h:Vals xs us):Vals xs.dropLast us.dropLast:=by
 induction h with
 |nil=>exact .nil
 |cons r t ih=>
  cases t with
  |nil=>exact .nil
  |cons q t'=>exact .cons r ih
theorem Vals.rep{xs:List V}{us:List Value}(h:Vals xs us):∀k:Nat,Vals (qem k xs).flatten (qem k us).flatten
 |0=>.nil
 |k+1=>by
  rw[qgg,qgg,qhb,qhb]
  exact Vals.append h (Vals.rep h k)
theorem zu1{α:Type}(l:List α):l.eraseIdx (l.length - 1)=l.dropLast:=by
 induction l with
 |nil=>rfl
 |cons a r ih=>
  cases r with
  |nil=>rfl
  |cons b r=>
   have e:(a::b::r).length - 1=((b::r).length - 1)+1:=by
    have h1:(a::b::r).length=r.length+2:=rfl
    have h2:(b::r).length=r.length+1:=rfl
    lia
   rw[e,List.eraseIdx_cons_succ,ih]
   all_goals rfl
theorem zpo(its:List Value):∀(k:Nat)(acc:List Value),
  List.foldl (λx1 x2=>x1++x2) acc.toArray (qem k its.toArray)=(acc++(qem k its).flatten).toArray
 |0,acc=>by simp
 |k+1,acc=>by
  have e:acc.toArray++its.toArray=(acc++its).toArray:=by simp
  have e2:(acc++its)++(qem k its).flatten=acc++(qem (k+1) its).flatten:=by
   rw[qgg,qhb,qfc]
  rw[<-e2,<-zpo its k (acc++its),<-e,qgg,qf7]
section
variable{X:Cx}{pins:List (Addr×Obj)}{σ:St}{H:Hp}{s:Shared}{l b:Addr}{xs ys zs:List V}
theorem Inv.lset{its its':List Value}{n:Nat}{f:Array Value->Array Value}{t':Nat}(I:Inv X pins σ H s)(hH:H l=some (.lst xs))(e:s.heap.get? l=some { cls:=.type "list",data:=.seq its.toArray n })(hf:f its.toArray=its'.toArray)(hv:Vals ys its')(hz:ys.length<=sizeLine) :
  Inv X pins σ (upd H l (.lst ys)) { s with heap:=s.heap.update l (Obj.mapSeq f),toks:=t' }:=by
 have q:=PySem.IsL.update e f
 rw[hf]at q
 refine I.write (x:=l) (e:=l) (by rw[hH];exact trivial) (.inl rfl) (λb' u hb hu=>(Heap.get?_update_other s.heap (Obj.mapSeq f) (Ne.symm hb)).trans hu) ⟨_,q⟩ ?_
 exact⟨hz,its',_,hv,q⟩
theorem Inv.lnew{its:List Value}{t':Nat}(I:Inv X pins σ H s)(hv:Vals ys its)(hz:ys.length<=sizeLine) :
  Inv X pins σ (upd H s.heap.objs.size (.lst ys)) { s with heap:=s.heap.push { cls:=.type "list",data:=.seq its.toArray },toks:=t' }:=
 I.laid (λ_ _ q=>Heap.get?_push_of_some _ q) (qek _) ⟨hz,its,0,hv,Heap.get?_push_size _ rfl⟩
theorem Inv.fresh(I:Inv X pins σ H s):H s.heap.objs.size=none:=I.hok.fresh (qek _)
theorem Inv.lstM(I:Inv X pins σ H s)(hH:H l=some (.lst xs)):xs.length<=sizeLine/\∃(its:List Value)(n:Nat),Vals xs its/\xs.length=its.length/\s.heap.get? l=some { cls:=.type "list",data:=.seq its.toArray n }:=by
 obtain⟨z,its,n,r,e⟩:=I.hok l _ hH
 exact⟨z,its,n,r,r.length,e⟩
theorem zs3{n:Nat}(h:n<=sizeLine):Builtin.List.listTooLong n=false:=by
 unfold Builtin.List.listTooLong
 exact decide_eq_false (by lia)
end
section
variable{X:Cx}
def qcz:V->List V->Hp->VK->Prop:=λx vs H Q=>∃l xs y,x=.ref l/\vs=[y]/\H l=some (.lst xs)/\xs.length<sizeLine/\Q .non (upd H l (.lst (xs++[y])))
theorem zbn:MtM X "list.append" qcz:=by
 intro pins s σ H x vs v us Q I rx rv h
 obtain⟨l,xs,y,rfl,rfl,hH,hz,q⟩:=h
 cases rx
 obtain⟨u,rfl,ru⟩:=rv.one
 obtain⟨z,its,n,r,hl,e⟩:=I.lstM hH
 refine call_meets F.slot_list_append ⟨_,e,rfl⟩ F.entry_list_append (F.args_list_append_2 _ _) (PySem.list_append l its.toArray n u (by rw[qet];lia)) ⟨e,?_⟩
 refine⟨.non,_,I.lset (its':=its++[u]) hH e (by simp) (r.append (.cons ru .nil)) ?_,rfl,q⟩
 rw[qee,qi8]
 lia
def qcy:V->List V->Hp->VK->Prop:=λx vs H Q=>∃l b xs zs,x=.ref l/\vs=[.ref b]/\H l=some (.lst xs)/\H b=some (.lst zs)/\xs.length+zs.length<=sizeLine/\Q .non (upd H l (.lst (xs++zs)))
theorem mt_extend:MtM X "list.extend" qcy:=by
 intro pins s σ H x vs v us Q I rx rv h
 obtain⟨l,b,xs,zs,rfl,rfl,hH,hB,hz,q⟩:=h
 cases rx
 obtain⟨u,rfl,ru⟩:=rv.one
 cases ru
 obtain⟨z,its,n,r,hl,e⟩:=I.lstM hH
 obtain⟨z2,its2,n2,r2,hl2,e2⟩:=I.lstM hB
 have hsz:its.toArray.size+its2.toArray.size<=sizeLine:=by rw[qet,qet];lia
 have hlong:¬(!its.toArray.isEmpty && Builtin.List.listTooLong (its.toArray.size+its2.toArray.size))=true:=by
  rw[zs3 hsz,Bool.and_false]
  exact qex
 refine call_meets F.slot_list_extend ⟨_,e,rfl⟩ F.entry_list_extend (F.args_list_extend_2 _ _)
  (AutoSeq1.list_extend_list_list_0 l its.toArray n b its2.toArray n2 hlong (by rw[qet];lia) (by lia)) ⟨e,e2,?_⟩
 refine⟨.non,_,I.lset (its':=its++its2) hH e (by simp) (r.append r2) ?_,rfl,q⟩
 rw[qee]
 lia
def rPop:V->List V->Hp->VK->Prop:=λx vs H Q=>∃l xs y,x=.ref l/\vs=[]/\H l=some (.lst xs)/\xs[xs.length - 1]?=some y/\Q y (upd H l (.lst xs.dropLast))
theorem zxl:MtM X "list.pop" rPop:=by
 intro pins s σ H x vs v us Q I rx rv h
 obtain⟨l,xs,y,rfl,rfl,hH,hy,q⟩:=h
 cases rx
 have hus:=rv.zero
 subst hus
 obtain⟨z,its,n,r,hl,e⟩:=I.lstM hH
 obtain⟨u,hu,ru⟩:=r.get hy
 have hy':its.toArray[its.toArray.size - 1]?=some u:=by
  show its.toArray[its.length - 1]?=some u
  rw[<-qh3,<-hl]
  exact hu
 refine call_meets F.slot_list_pop ⟨_,e,rfl⟩ F.entry_list_pop (F.args_list_pop_1 _) (MeetsSeq.list_pop_last l its.toArray n u hy' (by rw[qet];lia)) ⟨e,?_⟩
 refine⟨y,_,I.lset (its':=its.dropLast) hH e ?_ r.dropLast ?_,ru,q⟩
 ·show its.toArray.eraseIdxIfInBounds (its.toArray.size - 1)=its.dropLast.toArray
  rw[qet,List.eraseIdxIfInBounds_toArray,zu1]
 ·rw[List.length_dropLast]
  lia
def rCat:R2:=λx y H Q=>∃l b xs zs,x=.ref l/\y=.ref b/\H l=some (.lst xs)/\H b=some (.lst zs)/\xs.length+zs.length<=sizeLine/\∀p,H p=none->Q (.ref p) (upd H p (.lst (xs++zs)))
theorem zgg:OpR X (binaryOp .Add) rCat:=by
 intro pins s σ H x y v u Q I rx ry h
 obtain⟨l,b,xs,zs,rfl,rfl,hH,hB,hz,q⟩:=h
 cases rx
 cases ry
 obtain⟨z,its,n,r,hl,e⟩:=I.lstM hH
 obtain⟨z2,its2,n2,r2,hl2,e2⟩:=I.lstM hB
 refine PySem.P.add_list e e2 ?_ (by rw[qet,qet];lia)
 have ea:its.toArray++its2.toArray=(its++its2).toArray:=by simp
 rw[ea]
 exact⟨.ref _,_,I.lnew (t':=s.toks) (r.append r2) (by rw[qee];lia),rfl,q _ I.fresh⟩
def rRep:R2:=λx y H Q=>∃l k xs,x=.ref l/\y=.int k/\H l=some (.lst xs)/\-(2 ^ 63)<=k/\k<2 ^ 63/\xs.length*k.toNat<=sizeLine ∧
 ∀p,H p=none->Q (.ref p) (upd H p (.lst (qem k.toNat xs).flatten))
theorem zns{α:Type}(xs:List α)(k:Nat):(qem k xs).flatten.length=k*xs.length:=by
 induction k with
 |zero=>simp
 |succ k ih=>rw[qgg,qhb,qee,ih,Nat.succ_mul,qjb]
theorem zsx:OpR X (binaryOp .Mult) rRep:=by
 intro pins s σ H x y v u Q I rx ry h
 obtain⟨l,k,xs,rfl,rfl,hH,h1,h2,hz,q⟩:=h
 cases rx
 obtain⟨t,rfl⟩:=ry
 obtain⟨z,its,n,r,hl,e⟩:=I.lstM hH
 have hlen:its.toArray.size*k.toNat<=sizeLine:=by rw[qet,<-hl];exact hz
 have hcap:¬its.toArray.size*k.toNat > (2 ^ 63 - 1) / 8:=by
  have:(sizeLine:Nat)<=(2 ^ 63 - 1) / 8:=by decide
  lia
 have hfit:¬(!Builtin.List.listFitsIndex k)=true:=by
  rw[fitsIndex_both h1 h2]
  exact qex
 have hlong:¬Builtin.List.listTooLong (its.toArray.size*k.toNat)=true:=by
  rw[zs3 hlen]
  exact qex
 have hnew:List.foldl (λx1 x2=>x1++x2) #[] (qem (if its.toArray.isEmpty=true then 0 else k.toNat) its.toArray)=(qem k.toNat its).flatten.toArray:=by
  have f0:∀m:Nat,List.foldl (λx1 x2=>x1++x2) #[] (qem m its.toArray)=(qem m its).flatten.toArray:=λm=>by
   have:=zpo its m []
   rw[qfp]at this
   exact this
  rw[f0]
  cases its with
  |nil=>simp
  |cons a r'=>rw[if_neg (by simp)]
 refine wpAny_binaryOp_repeat_ref (T:="list") (U:="int") (by decide) ⟨_,e,rfl⟩ (λs'=>typeIs_int s' k t) noFill_list_mul F.fills_int_mul F.slot_int_rmul repeat_list F.slot_int_index.lookup
  (call_meets F.slot_int_rmul (typeIs_int s k t) F.entry_int_rmul (F.args_int_rmul_2 _ _) (int___rmul___int_list k t l its.toArray n)
   ⟨e,rfl,⟨_,e,rfl⟩,call_meets F.slot_list_mul ⟨_,e,rfl⟩ F.entry_list_mul (F.args_list_mul_2 _ _) (AutoListH.list___mul___list_int_3 l its.toArray n k t hfit hcap hlong) ⟨e,?_⟩⟩)
 rw[hnew]
 exact⟨.ref _,_,I.lnew (t':=s.toks) (r.rep k.toNat) (by rw[zns,Nat.mul_comm];exact hz),rfl,q _ I.fresh⟩
end
theorem Vals.ints:∀{ns:List Int}{us:List Value},Vals (ns.map V.int) us->IntsAre us ns
 |[],us,h=>by
  rw[qhq]at h
  cases h
  exact IntsAre.nil
 |n::ns,us,h=>by
  rw[qfh]at h
  cases h with
  |cons r t=>
   obtain⟨k,rfl⟩:=r
   exact IntsAre.cons n k (Vals.ints t)
theorem zoc:∀{us:List Value}{ns:List Int},IntsAre us ns->Vals (ns.map V.int) us
 |_,_,.nil=>by rw[qhq];exact Paired.nil
 |_,_,.cons n t h=>by rw[qfh];exact Paired.cons (show RelV (V.int n) (Value.int n t) from ⟨t,rfl⟩) (zoc h)
theorem Vals.bls:∀{bs:List Bool}{us:List Value},Vals (bs.map V.bl) us->us=bs.map Value.bool
 |[],us,h=>by
  rw[qhq]at h
  cases h
  rfl
 |b::bs,us,h=>by
  rw[qfh]at h
  cases h with
  |cons r t=>
   cases r
   rw[Vals.bls t,qfh]
theorem Vals.ref1{a:Addr}{us:List Value}(r:Vals [V.ref a] us):us=[Value.ref a]:=by
 cases r with
 |cons r t=>
  cases t
  cases r
  rfl
section
variable{prog:Program}{w:World}{A:Around}{E:Value->Shared->Prop}{s:Shared}{l:Addr}{its:List Value}{ns:List Int}{Q:Value->Shared->Prop}
theorem qdt(hh:A.handled=none)(hl:s.heap.IsList l its.toArray)(hi:IntsAre its ns)(hne:0<ns.length)(h:∀h' tk M t',(∀b o,s.heap.get? b=some o->h'.get? b=some o)->M∈ns->(∀a,a∈ns->a<=M)->Q (.int M t') { s with heap:=h',toks:=tk }):wpAny (model prog w) A (call (.builtin "max") [.ref l]) Q E s:=by
 obtain⟨xs,e⟩:=hi.allInts.items
 have hn:numsOf (intItems xs).toList=ns:=by rw[<-e];exact hi.numsOf
 rw[nums_intItems]at hn
 subst hn
 rw[e]at hl
 have hsz:0<xs.size:=by simpa using hne
 refine PySem.max_intList hh hl hsz λv h' tk hv hk=>?_
 obtain⟨t,rfl⟩:=intItems_at hv
 obtain⟨h1,h2⟩:=argBest_gt (numAt xs) (xs.size - 1)
 refine h h' tk _ t hk ?_ λa ha=>?_
 ·rw[numAt_eq];exact PySem.getD_mem (by rw[qec,qgf];lia)
 ·obtain⟨j,hj,rfl⟩:=mem_getD ha
  rw[qec,qgf]at hj
  rw[<-numAt_eq];exact h2 j (by lia)
theorem qds(hh:A.handled=none)(hl:s.heap.IsList l its.toArray)(hi:IntsAre its ns)(hne:0<ns.length)(h:∀h' tk M t',(∀b o,s.heap.get? b=some o->h'.get? b=some o)->M∈ns->(∀a,a∈ns->M<=a)->Q (.int M t') { s with heap:=h',toks:=tk }):wpAny (model prog w) A (call (.builtin "min") [.ref l]) Q E s:=by
 obtain⟨xs,e⟩:=hi.allInts.items
 have hn:numsOf (intItems xs).toList=ns:=by rw[<-e];exact hi.numsOf
 rw[nums_intItems]at hn
 subst hn
 rw[e]at hl
 have hsz:0<xs.size:=by simpa using hne
 refine PySem.min_intList hh hl hsz λv h' tk hv hk=>?_
 obtain⟨t,rfl⟩:=intItems_at hv
 obtain⟨h1,h2⟩:=argBest_lt (numAt xs) (xs.size - 1)
 refine h h' tk _ t hk ?_ λa ha=>?_
 ·rw[numAt_eq];exact PySem.getD_mem (by rw[qec,qgf];lia)
 ·obtain⟨j,hj,rfl⟩:=mem_getD ha
  rw[qec,qgf]at hj
  rw[<-numAt_eq];exact h2 j (by lia)
end
section
variable{X:Cx}
def rMax(K:qed):List V->Hp->VK->Prop:=λvs H Q=>∃(a:Addr)(ns:List Int),vs=[V.ref a]/\SqL K H a (ns.map V.int)/\0<ns.length/\∀m,m∈ns->(∀y,y∈ns->y<=m)->Q (.int m) H
def rMin(K:qed):List V->Hp->VK->Prop:=λvs H Q=>∃(a:Addr)(ns:List Int),vs=[V.ref a]/\SqL K H a (ns.map V.int)/\0<ns.length/\∀m,m∈ns->(∀y,y∈ns->m<=y)->Q (.int m) H
theorem cr_max(hc:X.calm=true):zma X (.builtin "max") (rMax X.K):=by
 intro pins s σ H vs us Q I r h
 obtain⟨a,ns,rfl,hs,hne,q⟩:=h
 obtain⟨its,rv,hl,_⟩:=I.list hs
 rw[Vals.ref1 r]
 exact qdt (I.ok.hd hc) hl.isList rv.ints hne λh' tk m t' hk h1 h2=>⟨.int _,H,I.kept hk,⟨_,rfl⟩,q m h1 h2⟩
theorem cr_min(hc:X.calm=true):zma X (.builtin "min") (rMin X.K):=by
 intro pins s σ H vs us Q I r h
 obtain⟨a,ns,rfl,hs,hne,q⟩:=h
 obtain⟨its,rv,hl,_⟩:=I.list hs
 rw[Vals.ref1 r]
 exact qds (I.ok.hd hc) hl.isList rv.ints hne λh' tk m t' hk h1 h2=>⟨.int _,H,I.kept hk,⟨_,rfl⟩,q m h1 h2⟩
end
theorem ztb{prog:Program}{w:World}{A:Around}{E:Value->Shared->Prop}{s:Shared}{l:Addr}{items:Array Value}{Q:Value->Shared->Prop}(hl:s.heap.IsList l items)(h:∀s₂:Shared,s₂={ s with heap:=s.heap.push { cls:=.type "list_iterator",data:=.fields #[.ref l,.int 0 0] } } ->
   (s₂.heap.IsListIter s.heap.objs.size l 0/\s₂.heap.IsList l items)->l≠s.heap.objs.size->Q (.ref s.heap.objs.size) s₂):wpAny (model prog w) A (pyIter (.ref l)) Q E s:=by
 have hlt:l<s.heap.objs.size:=by obtain⟨_,e,_⟩:=hl;exact Heap.lt_size e
 exact wpAny_pyIter_list hl (h _ rfl ⟨⟨_,Heap.get?_push_size _ rfl,rfl,rfl⟩,hl.push _⟩ (qe9 hlt))
theorem zqk{prog:Program}{w:World}{A:Around}{bs:List Bool}{its:List Value}(e:its=bs.map Value.bool) :
  TruthOf prog w A (λi v=>its.toArray[i]?=some v) (λi=>bs.getD i false):=λi v s Q E hv hq=>by
 have hv':its[i]?=some v:=by simpa using hv
 rw[e,qeh]at hv'
 obtain⟨b,hb,rfl⟩:=qei.mp hv'
 have hg:bs.getD i false=b:=by rw[qfj,hb] <;> rfl
 have hq':Q (bs.getD i false) s:=hq
 rw[hg]at hq'
 exact wpAny_truthy_bool hq'
theorem zp7:∀bs:List Bool,(qfk bs.length).any (λi=>bs.getD i false)=bs.any id
 |[]=>rfl
 |b::bs=>by
  rw[qeg,qi3,qg2,List.any_map,qg2,<-zp7 bs]
  all_goals rfl
theorem zp9:∀bs:List Bool,(qfk bs.length).all (λi=>bs.getD i false)=bs.all id
 |[]=>rfl
 |b::bs=>by
  rw[qeg,qi3,qg1,qih,qg1,<-zp9 bs]
  all_goals rfl
section
variable{X:Cx}
def rAll(K:qed):List V->Hp->VK->Prop:=λvs H Q=>∃(a:Addr)(bs:List Bool),vs=[V.ref a]/\SqL K H a (bs.map V.bl)/\Q (.bl (bs.all id)) H
theorem cr_all(hc:X.calm=true):zma X (.builtin "all") (rAll X.K):=by
 intro pins s σ H vs us Q I r h
 obtain⟨a,bs,rfl,hs,q⟩:=h
 obtain⟨its,rv,hl,_⟩:=I.list hs
 rw[Vals.ref1 r]
 have hb:=rv.bls
 refine call_all_walk (ztb hl.isList λs₂ e2 st hne=>?_)
 subst e2
 refine⟨_,_,_,_,_,_,_,rfl,Walks.list (A:=X.A.in1) (I.ok.hd hc) _ a hne its.toArray,st,zqk hb,λh' tk hk=>?_⟩
 refine⟨.bl _,H,I.kept λb o eo=>hk b o (λhmem=>?_) (Heap.get?_push_of_some _ eo),?_,q⟩
 ·rcases qer.mp hmem with e1|hmem
  ·exact absurd (e1▸Heap.lt_size eo) (qgi _)
  ·cases hmem
 ·show Value.bool _=Value.bool _
  rw[<-zp9,hb,qet,qec]
end
abbrev qb2(h:Heap)(c:Addr)(v:Option Value):Prop:=h.IsCell c v
def relS(scope sc:Scope):Scope:=
 { scope with names:=scope.names.map λ(n,k)=>if (k == .free && sc.kind == .function && sc.names.lookup n == some .cell) then (n,.cell) else (n,k) }
def za1(cells:List (Str×Addr)):List (Str×NameKind)->List (Str×Addr)->List (Str×Addr)
 |[],acc=>acc
 |(n,k)::r,acc=>if k == .free then za1 cells r ((n,(cells.lookup n).getD 0)::acc) else za1 cells r acc
theorem zi4(env:Env)(f:Str×NameKind->List (Str×Addr)->Sem (ForInStep (List (Str×Addr))))(hf:∀n k c,f (n,k) c=if k == .free then (do let a <-cellOf env n;pure (.yield ((n,a)::c))) else pure (.yield c)) :
  ∀(names:List (Str×NameKind))(acc:List (Str×Addr)),(∀y∈names,y.2=.free->∃c,env.cells.lookup y.1=some c)->forIn names acc f=pure (za1 env.cells names acc)
 |[],acc,_=>by rw[qhf];rfl
 |(n,k)::r,acc,h=>by
  rw[qhv,hf]
  have ih:=λacc=>zi4 env f hf r acc λy hy=>h y (qfa _ hy)
  unfold za1
  by_cases hk:(k == NameKind.free)=true
  ·rw[if_pos hk,if_pos hk]
   obtain⟨c,hc⟩:=h (n,k) qfw (by simpa using hk)
   have e:cellOf env n=pure c:=by unfold cellOf;rw[hc]
   rw[e]
   have e2:(env.cells.lookup n).getD 0=c:=by rw[hc];rfl
   rw[e2]
   exact ih _
  ·rw[if_neg hk,if_neg hk]
   exact ih _
theorem zii{scope:Scope}{env:Env}(h:∀y∈scope.names,y.2=.free->∃c,env.cells.lookup y.1=some c):closureFor scope env=pure (za1 env.cells scope.names []):=by
 simp only[closureFor]
 rw[zi4 env _ (λn k c=>rfl) scope.names [] h]
 rfl
theorem zid{α:Type}:∀{l:List (Str×α)}{n:Str}{c:α},(n,c)∈l->∃c',l.lookup n=some c'
 |(k,v)::r,n,c,h=>by
  rw[qgs]
  cases hb:n == k with
  |true=>exact⟨_,rfl⟩
  |false=>
   rcases qer.mp h with e|h
   ·cases e;simp at hb
   ·exact zid h
theorem zeq{cells:List (Str×Addr)}:∀{names:List (Str×NameKind)}{acc:List (Str×Addr)}{n:Str}{c:Addr},(n,c)∈za1 cells names acc->(n,c)∈acc\/((n,.free)∈names/\c=(cells.lookup n).getD 0)
 |[],_,_,_,h=>.inl h
 |(m,k)::r,acc,n,c,h=>by
  unfold za1 at h
  split at h
  ·rename_i hk
   have hk:k=.free:=by simpa using hk
   rcases zeq h with h|⟨h1,h2⟩
   ·rcases qer.mp h with e|h
    ·cases e;exact .inr ⟨hk▸qfw,rfl⟩
    ·exact .inl h
   ·exact .inr ⟨qfa _ h1,h2⟩
  ·rcases zeq h with h|⟨h1,h2⟩
   ·exact .inl h
   ·exact .inr ⟨qfa _ h1,h2⟩
theorem zg0{cells:List (Str×Addr)}:∀{names:List (Str×NameKind)}{acc:List (Str×Addr)}{p:Str×Addr},p∈acc->p∈za1 cells names acc
 |[],_,_,h=>h
 |(m,k)::r,acc,p,h=>by
  unfold za1
  split
  ·exact zg0 (qfa _ h)
  ·exact zg0 h
theorem zgz{cells:List (Str×Addr)}:∀{names:List (Str×NameKind)}{acc:List (Str×Addr)}{n:Str},(n,.free)∈names->(n,(cells.lookup n).getD 0)∈za1 cells names acc
 |(m,k)::r,acc,n,h=>by
  unfold za1
  rcases qer.mp h with e|h
  ·cases e
   exact zg0 qfw
  ·split
   ·exact zgz h
   ·exact zgz h
theorem zfp:∀{names:List (Str×NameKind)}{h:Heap}{acc:List (Str×Addr)}{x:Str}{c:Addr},(x,c)∈cellsFrom h.objs.size names acc ->
  (x,c)∈acc\/((x,.cell)∈names/\h.objs.size<=c/\qb2 (pushCells h names) c none)
 |[],_,_,_,_,h=>.inl h
 |(n,k)::r,h,acc,x,c,hm=>by
  unfold cellsFrom at hm
  unfold pushCells
  split at hm
  ·rename_i hk
   rw[if_pos hk]
   have hk:k=.cell:=by simpa using hk
   rw[<-Heap.size_push h { cls:=.type "cell",data:=.cell none }]at hm
   rcases zfp hm with hm|⟨h1,h2,h3⟩
   ·rcases qer.mp hm with e|hm
    ·cases e
     exact .inr ⟨hk▸qfw,qek _,_,pushCells_keeps r _ _ _ (Heap.get?_push_size _ rfl),rfl⟩
    ·exact .inl hm
   ·rw[Heap.size_push]at h2
    exact .inr ⟨qfa _ h1,qhz h2,h3⟩
  ·rename_i hk
   rw[if_neg hk]
   rcases zfp hm with hm|⟨h1,h2,h3⟩
   ·exact .inl hm
   ·exact .inr ⟨qfa _ h1,h2,h3⟩
theorem zhu:∀{names:List (Str×NameKind)}{n:Nat}{acc:List (Str×Addr)}{p:Str×Addr},p∈acc->p∈cellsFrom n names acc
 |[],_,_,_,h=>h
 |(m,k)::r,n,acc,p,h=>by
  unfold cellsFrom
  split
  ·exact zhu (qfa _ h)
  ·exact zhu h
theorem zk4:∀{names:List (Str×NameKind)}{n:Nat}{acc:List (Str×Addr)}{x:Str},(x,.cell)∈names->∃c,(x,c)∈cellsFrom n names acc
 |(m,k)::r,n,acc,x,h=>by
  unfold cellsFrom
  rcases qer.mp h with e|h
  ·cases e
   exact⟨n,zhu qfw⟩
  ·split
   ·exact zk4 h
   ·exact zk4 h
theorem zk3:∀{names:List (Str×NameKind)}{h:Heap}{acc:List (Str×Addr)}{x y:Str}{c:Addr},(∀p∈acc,p.2<h.objs.size)->(∀x y c,(x,c)∈acc->(y,c)∈acc->x=y) ->
  (x,c)∈cellsFrom h.objs.size names acc->(y,c)∈cellsFrom h.objs.size names acc->x=y
 |[],_,_,_,_,_,_,hi,h1,h2=>hi _ _ _ h1 h2
 |(n,k)::r,h,acc,x,y,c,hl,hi,h1,h2=>by
  unfold cellsFrom at h1 h2
  split at h1
  ·rename_i hk
   rw[if_pos hk]at h2
   rw[<-Heap.size_push h { cls:=.type "cell",data:=.cell none }]at h1 h2
   refine zk3 (h:=h.push _) (λp hp=>?_) (λx y c a b=>?_) h1 h2
   ·rw[Heap.size_push]
    rcases qer.mp hp with rfl|hp
    ·exact qiz _
    ·exact qh0 (hl p hp)
   ·rcases qer.mp a with e|a <;> rcases qer.mp b with e'|b
    ·cases e;cases e';rfl
    ·cases e;exact absurd (hl _ b) (qgi _)
    ·cases e';exact absurd (hl _ a) (qgi _)
    ·exact hi _ _ _ a b
  ·rename_i hk
   rw[if_neg hk]at h2
   exact zk3 hl hi h1 h2
theorem zkl{M:Model}{A:Around}{E:Value->Shared->Prop}{s:Shared}{scope:Scope}{globals:Addr}{closure:List (Str×Addr)}{qual:Str}{func:Option Addr}{code:Value}{around:Env}{builtins:Addr}{Q:Env->Shared->Prop}(h:Q (newEnv scope s.heap.objs.size globals (cellsFrom (s.heap.objs.size+1) scope.names closure) qual func code (some around) builtins)
   { s with heap:=pushCells (s.heap.push { cls:=.type "dict",data:=.dict #[] }) scope.names }) :
  wpAny M A (newFunctionEnv scope globals closure [] qual func code (some around) builtins) Q E s:=by
 simp only[newFunctionEnv,Option.isSome_some,if_true]
 refine wpAny_bind (wpAny_alloc ?_)
 refine wpAny_bind (wpAny_layCells _ (λn k c=>rfl) scope.names closure _ _ ?_)
 rw[show ({ s with heap:=s.heap.push { cls:=.type "dict",data:=.dict #[] } }:Shared).heap.objs.size=s.heap.objs.size+1 from Heap.size_push ..]
 rw[qhf]
 exact wpAny_bind (wpAny_pure (wpAny_pure h))
theorem zgt{sc:Scope}:∀{names:List (Str×NameKind)}{x:Str}{k:NameKind},
  (names.map λ(n,k)=>if (k == NameKind.free && sc.kind == .function && sc.names.lookup n == some .cell) then (n,NameKind.cell) else (n,k)).lookup x=some k ->
  ∃k',names.lookup x=some k'/\(k=k'\/(k'=.free/\k=.cell))
 |[],_,_,h=>by simp at h
 |(n,k₀)::r,x,k,h=>by
  have ih:=@zgt sc r x k
  have h':qho x ((if (k₀ == NameKind.free && sc.kind == .function && sc.names.lookup n == some .cell)=true then (n,NameKind.cell) else (n,k₀))::(r.map _))=some k:=h
  cases hx:x == n with
  |true=>
   simp only[qgs,hx]
   by_cases hc:(k₀ == NameKind.free && sc.kind == .function && sc.names.lookup n == some .cell)=true
   ·rw[if_pos hc]at h'
    simp only[qgs,hx]at h'
    cases h'
    simp only[qev,beq_iff_eq]at hc
    exact⟨k₀,rfl,.inr ⟨hc.1.1,rfl⟩⟩
   ·rw[if_neg hc]at h'
    simp only[qgs,hx]at h'
    cases h'
    exact⟨_,rfl,.inl rfl⟩
  |false=>
   simp only[qgs,hx]
   by_cases hc:(k₀ == NameKind.free && sc.kind == .function && sc.names.lookup n == some .cell)=true
   ·rw[if_pos hc]at h'
    simp only[qgs,hx]at h'
    exact ih h'
   ·rw[if_neg hc]at h'
    simp only[qgs,hx]at h'
    exact ih h'
structure zr8(N:List Str)(sc scope:Scope)(own:List (Str×Nat)):Prop where
 kind:scope.kind=.function
 uniq:∀y∈scope.names,scope.names.lookup y.1=some y.2
 ix:∀p∈own,N[p.2]?=some p.1
 free:∀y∈scope.names,y.2=.free->sc.names.lookup y.1=some .cell\/sc.names.lookup y.1=some .free
 own:∀y∈scope.names,y.2=.local\/y.2=.cell->y.1∈own.map (·.1)\/y.1 ∉ N
def zdc(σ:St):List Nat->St
 |[]=>σ
 |v::vs=>(zdc σ vs).set v none
theorem zel(σ:St):∀vs:List Nat,(zdc σ vs).length=σ.length
 |[]=>rfl
 |v::vs=>by unfold zdc;rw[qi7,zel σ vs]
theorem zg5{σ:St}{i:Nat}{x:V}:∀{vs:List Nat},(zdc σ vs)[i]?=some (some x)->σ[i]?=some (some x)/\i ∉ vs
 |[],h=>⟨h,by simp⟩
 |v::vs,h=>by
  unfold zdc at h
  by_cases hi:v=i
  ·subst hi
   by_cases hv:v<(zdc σ vs).length
   ·rw[qhy hv]at h;cases h
   ·rw[qfx (by simpa using hv)]at h;cases h
  ·rw[qia hi]at h
   obtain⟨h1,h2⟩:=zg5 h
   exact⟨h1,by simp only[qer,not_or];exact⟨λe=>hi e.symm,h2⟩⟩
abbrev Cx.blk(X:Cx)(s:Shared)(H:Hp)(scope:Scope)(cenv:Env)(fp:List Addr):Cx:={ X with s₀:=s,H₀:=H,env:=cenv,outer:=X.stack,ex:=fp,fn:=λx=>scope.names.lookup x == some .cell,pn:=[],xe:=λ_ _=>False }
section
variable{X:Cx}{pins:List (Addr×Obj)}{σ:St}{H:Hp}{s:Shared}
theorem zk9{scope:Scope}{own:List (Str×Nat)}{fp:List Addr}(I:Inv X pins σ H s)(ok:zr8 X.N X.env.scope scope own)(hN:X.N.Nodup)(hfp:∀b∈fp,zn9 X pins H b/\b<s.heap.objs.size) :
  Inv (X.blk s H scope (compEnvC scope (cellsFrom (s.heap.objs.size+1) scope.names (za1 X.env.cells scope.names [])) s.heap.objs.size X.env) fp) [] (zdc σ (own.map (·.2))) H { s with heap:=pushCells (s.heap.push { cls:=.type "dict",data:=.dict #[] }) scope.names }:=by
 have hfree:∀y∈scope.names,y.2=.free->∃c,X.env.cells.lookup y.1=some c:=λy hy e=>by
  rcases ok.free y hy e with k|k
  ·exact I.ok.has _ (.inl k)
  ·exact I.ok.has _ (.inr k)
 generalize hcenv:compEnvC scope (cellsFrom (s.heap.objs.size+1) scope.names (za1 X.env.cells scope.names [])) s.heap.objs.size X.env=cenv
 have kp:∀b o,s.heap.get? b=some o->(pushCells (s.heap.push { cls:=.type "dict",data:=.dict #[] }) scope.names).get? b=some o:=λb o e=>pushCells_keeps _ _ _ _ (Heap.get?_push_of_some _ e)
 have hL:cenv.locals=s.heap.objs.size:=by rw[<-hcenv];rfl
 have hcl:cenv.cells=cellsFrom (s.heap.objs.size+1) scope.names (za1 X.env.cells scope.names []):=by rw[<-hcenv];rfl
 have hsc:cenv.scope=relS scope X.env.scope:=by rw[<-hcenv];rfl
 rw[<-Heap.size_push s.heap { cls:=.type "dict",data:=.dict #[] }]at hcl
 have cm:∀{y c},(y,c)∈za1 X.env.cells scope.names []->X.env.cells.lookup y=some c/\c<s.heap.objs.size:=λ{y c} hm=>by
  rcases zeq hm with hm|⟨h1,rfl⟩
  ·cases hm
  ·obtain⟨c,hc⟩:=hfree _ h1 rfl
   rw[hc]
   obtain⟨w,z⟩:=I.cell _ _ hc
   exact⟨rfl,z.lt⟩
 have mem:∀{y c},cenv.cells.lookup y=some c->(X.env.cells.lookup y=some c/\c<s.heap.objs.size)\/(s.heap.objs.size+1<=c/\qb2 (pushCells (s.heap.push { cls:=.type "dict",data:=.dict #[] }) scope.names) c none):=λ{y c} e=>by
  rw[hcl]at e
  rcases zfp (PySem.mem_of_lookup e) with hm|⟨_,h2,h3⟩
  ·exact .inl (cm hm)
  ·rw[Heap.size_push]at h2;exact .inr ⟨h2,h3⟩
 have look:∀{y},scope.names.lookup y=some .free->∃c,cenv.cells.lookup y=some c/\X.env.cells.lookup y=some c:=λ{y} hl=>by
  have hy:(y,NameKind.free)∈scope.names:=PySem.mem_of_lookup hl
  obtain⟨c',e'⟩:=zid (zhu (names:=scope.names) (n:=(s.heap.push { cls:=.type "dict",data:=.dict #[] }).objs.size) (zgz (cells:=X.env.cells) (acc:=[]) hy))
  rw[<-hcl]at e'
  refine⟨c',e',?_⟩
  rw[hcl]at e'
  rcases zfp (PySem.mem_of_lookup e') with hm|⟨h1,_,_⟩
  ·exact (cm hm).1
  ·have:=ok.uniq _ h1
   rw[hl]at this;cases this
 have okB:(X.blk s H scope cenv fp).Ok:=by
  refine⟨I.ok.mod,by show cenv.scope.kind=_;rw[hsc];exact ok.kind,by show cenv.globals=_;rw[<-hcenv];exact I.ok.glob,by show cenv.builtins=_;rw[<-hcenv];exact I.ok.blt,by show s.heap.objs.size<=cenv.locals;rw[hL];exact qek _,
   λy z c e1 e2=>?_,λy hy=>?_,λy c z e=>?_,I.ok.hd,I.ok.frames,.inl rfl,λb hb=>⟨?_,λy c e z=>?_⟩,I.bs,qfq I.ok.bsz I.sz,λb o e hb=>?_,λb hb z=>?_,I.stack,I.stkFree⟩
  ·have e1:cenv.cells.lookup y=some c:=e1
   have e2:cenv.cells.lookup z=some c:=e2
   rw[hcl]at e1 e2
   refine zk3 (λp hp=>?_) (λy z c a b=>I.ok.inj y z c (cm a).1 (cm b).1) (PySem.mem_of_lookup e1) (PySem.mem_of_lookup e2)
   rw[Heap.size_push]
   exact qh0 (cm (y:=p.1) (c:=p.2) hp).2
  ·show ∃c,cenv.cells.lookup y=some c
   have key:∀k,cenv.kindOf y=some k->(k=.cell\/k=.free)->∃c,cenv.cells.lookup y=some c:=λk hk hk'=>by
    unfold Env.kindOf at hk
    rw[hsc]at hk
    obtain⟨k',e,r⟩:=zgt hk
    have:k'=.cell\/k'=.free:=by
     rcases r with rfl|⟨rfl,_⟩
     ·exact hk'
     ·exact .inr rfl
    rcases this with rfl|rfl
    ·obtain⟨c,hm⟩:=zk4 (n:=(s.heap.push { cls:=.type "dict",data:=.dict #[] }).objs.size) (acc:=za1 X.env.cells scope.names []) (PySem.mem_of_lookup e)
     obtain⟨c',e'⟩:=zid hm
     exact⟨c',by rw[hcl];exact e'⟩
    ·obtain⟨c,h1,_⟩:=look e
     exact⟨c,h1⟩
   rcases hy with hy|hy
   ·exact key _ hy (.inl rfl)
   ·exact key _ hy (.inr rfl)
  ·have z:(scope.names.lookup y == some NameKind.cell)=true:=z
   have z:scope.names.lookup y=some .cell:=by simpa using z
   have e:cenv.cells.lookup y=some c:=e
   rw[hcl]at e
   rcases zfp (PySem.mem_of_lookup e) with hm|⟨_,h2,_⟩
   ·rcases zeq hm with hm|⟨h1,_⟩
    ·cases hm
    ·have q:=ok.uniq _ h1
     rw[z]at q;cases q
   ·rw[Heap.size_push]at h2
    exact qhz h2
  ·show b≠cenv.locals
   rw[hL];exact qe9 (hfp b hb).2
  ·have e:cenv.cells.lookup y=some c:=e
   rcases mem e with ⟨h1,_⟩|⟨h1,_⟩
   ·exact (hfp b hb).1.2.2.2.2.1 y c h1 z
   ·have h2:s.heap.objs.size+1<=b:=by rw[<-z];exact h1
    exact absurd (qep (hfp b hb).2 (qhz h2)) (qgi _)
  ·rcases (hfp b hb).1.2.2.2.1 with z|z
   ·exact I.ok.noex b o e z
   ·exact absurd (qep (Heap.lt_size e) (qfq I.ok.bsz z)) (qgi _)
  ·rcases qer.mp (I.stkSub b z) with z|z
   ·exact (hfp b hb).1.2.1 z
   ·exact (hfp b hb).1.2.2.1 z
 refine⟨okB,rfl,I.bare,Un.kept kp,⟨λ_=>none,?_,λi y av e1 e2 e3=>?_⟩,λy c e=>?_,?_,λy c e=>?_,λp hp=>?_,I.hok.kept kp,by rw[zel];exact I.len⟩
 ·show Heap.Ns _ cenv.locals _
  rw[hL]
  exact Heap.Ns.keeps (Heap.Ns.new ..) λb o e=>pushCells_keeps _ _ _ _ e
 ·obtain⟨e2,hne⟩:=zg5 e2
  have hfr:scope.names.lookup y=some .free/\(cenv.kindOf y=some .cell\/cenv.kindOf y=some .free):=by
   have key:∀k,cenv.scope.names.lookup y=some k->k=.local\/k=.cell\/k=.free->scope.names.lookup y=some .free/\(cenv.kindOf y=some .cell\/cenv.kindOf y=some .free):=λk hk hk'=>by
    have hk0:=hk
    rw[hsc]at hk
    obtain⟨k',e,r⟩:=zgt hk
    have no:¬(k'=.local\/k'=.cell):=λhh=>by
     rcases ok.own _ (PySem.mem_of_lookup e) hh with e'|e'
     ·obtain⟨p,hp,hpy⟩:=qe1.mp e'
      have e3:=ok.ix p hp
      have:p.1=y:=hpy
      rw[this]at e3
      exact hne (qe1.mpr ⟨p,hp,zno hN e3 e1⟩)
     ·exact e' (qe7 e1)
    rcases r with rfl|⟨rfl,rfl⟩
    ·rcases hk' with rfl|rfl|rfl
     ·exact absurd (.inl rfl) no
     ·exact absurd (.inr rfl) no
     ·exact⟨e,.inr hk0⟩
    ·exact⟨e,.inl hk0⟩
   have e3:Vis cenv.scope y:=e3
   rcases e3 with e3|e3|e3
   ·exact key _ e3 (.inl rfl)
   ·exact key _ e3 (.inr (.inl rfl))
   ·exact key _ e3 (.inr (.inr rfl))
  obtain⟨m,hn,hl⟩:=I.loc
  have hvis:Vis X.env.scope y:=(ok.free _ (PySem.mem_of_lookup hfr.1) rfl).elim (λk=>.inr (.inl k)) (λk=>.inr (.inr k))
  obtain⟨w,r,q⟩:=hl i y av e1 e2 hvis
  refine⟨w,r,.inr ⟨hfr.2,?_⟩⟩
  obtain⟨c,h1,h2⟩:=look hfr.1
  rcases q with ⟨k,_⟩|⟨_,c',e',z⟩
  ·have k:X.env.scope.names.lookup y=some .local:=k
   rcases ok.free _ (PySem.mem_of_lookup hfr.1) rfl with k'|k' <;> rw[show X.env.scope.names.lookup y=_ from k']at k <;> cases k
  ·rw[h2]at e';cases e'
   exact⟨c,h1,z.keeps kp⟩
 ·have e:cenv.cells.lookup y=some c:=e
  rcases mem e with ⟨h1,_⟩|⟨_,z⟩
  ·obtain⟨w,z⟩:=I.cell y c h1
   exact⟨w,z.keeps kp⟩
  ·exact⟨_,z⟩
 ·show H cenv.locals=none
  rw[hL];exact I.hok.fresh (qek _)
 ·have e:cenv.cells.lookup y=some c:=e
  rcases mem e with ⟨h1,_⟩|⟨h1,_⟩
  ·exact I.freeC y c h1
  ·exact I.hok.fresh (qhz h1)
 ·exact absurd (show p∈([]:List (Addr×Obj))++[] from hp) (by simp)
theorem qbz{E:Value->Shared->Prop}{D:Addr}{xs:List V}{y:V}{v:Value}{Q:Value->Shared->Prop}(I:Inv X pins σ H s)(hD:H D=some (.lst xs))(hz:xs.length<sizeLine)(r:RelV y v)(h:∀s',Inv X pins σ (upd H D (.lst (xs++[y]))) s'->Q .none s'):wpAny (model X.prog X.w) X.A (call (.builtin "list.append") [.ref D,v]) Q E s:=by
 obtain⟨hz',its,n,ri,e⟩:=I.hok D _ hD
 have hl:=ri.length
 refine append_at (hsz:=by rw[qet];lia) e λh' sb ho'=>?_
 refine h { s with heap:=h' } (I.write (t':=s.toks) (by rw[hD];trivial) (.inl rfl) (λb u hb q=>(sb.2 b hb).trans q) ⟨_,ho'⟩ ⟨by rw[qee];exact hz,its++[v],n+1,ri.append (.cons r .nil),?_⟩)
 rw[ho']
 simp
def PTs(X:Cx)(ifs:List Expr)(t:TT):Prop:=
 ∀(pins:List (Addr×Obj))(s:Shared)(σ:St)(H:Hp)(Q:Bool->Hp->Prop),Inv X pins σ H s->t σ H Q ->
  wpAny (model X.prog X.w) X.A (forIn ifs true λc r=>if r=true then do let ok <-isTrue c X.env (eval c X.env);pure (ForInStep.yield ok) else pure (ForInStep.yield r)) (TP X pins σ Q) X.xe s
def tYes:TT:=λ_ H Q=>Q true H
theorem zco:PTs X [] tYes:=λ_ _ _ H _ I h=>wpAny_tests_nil ⟨H,I,h⟩
theorem qc0{c:Expr}{t:TT}(h:PT X c t):PTs X [c] t:=λpins s σ H Q I hw=>wpAny_tests_one (h pins s σ H Q I hw)
end
theorem zvw{α:Type}{t:Sem α}{Q Q':α->Shared->Prop}{M:Model}{A:Around}{E:Value->Shared->Prop}{s:Shared}(h:wpAny M A t Q (λ_ _=>False) s)(hQ:∀a s,Q a s->Q' a s):wpAny M A t Q' E s:=wpAny_mono h hQ λ_ _ z=>False.elim z
theorem zi3{prog:Program}{w:World}{A:Around}{R:Result->Shared->Prop}{s:Shared}{elt target iter:Expr}{ifs:List Expr}{scope:Scope}{pos:Pos}{it acc:Value}{env:Env}(I:Nat->Shared->Prop)(turn:∀n s,I n s->wpAny (model prog w) A (pyNext it) (λr s₁=>match r with
   |none=>R (.ok .next) s₁
   |some v=>wpAny (model prog w) A (letOwnedTupleGo target it v) (λ_ s₁'=>wpAny (model prog w) A (assign target env v) (λ_ s₂=>
     wpAny (model prog w) A (forIn ifs true λc r=>if r=true then do let ok <-isTrue c env (eval c env);pure (ForInStep.yield ok) else pure (ForInStep.yield r)) (λok s₃=>
      if ok=true then wpAny (model prog w) A (eval elt env) (λx s₄=>
       wpAny (model prog w) A (call (.builtin "list.append") [acc,x]) (λ_ s₅=>∃m,m<n/\I m s₅) (notedBy (model prog w) A env λe s'=>R (.error e) s') s₄) (notedBy (model prog w) A env λe s'=>R (.error e) s') s₃
      else ∃m,m<n/\I m s₃) (notedBy (model prog w) A env λe s'=>R (.error e) s') s₂) (notedBy (model prog w) A env λe s'=>R (.error e) s') s₁') (notedBy (model prog w) A env λe s'=>R (.error e) s') s₁) (notedBy (model prog w) A env λe s'=>R (.error e) s') s)(n:Nat)(h:I n s) :
  codeAny (model prog w) A (.compLoop (.ListComp elt [⟨target,iter,ifs,0⟩] scope pos) 0 it acc env) R s:=by
 refine codeAny_loop rfl I (λn s hI=>?_) n h
 show wpAny _ A ((compTurn (.ListComp elt [⟨target,iter,ifs,0⟩] scope pos) 0 it acc env).onRaise (λx=>do noteFrame x env;theTreesLotGoes x)) _ _ s
 refine wpAny_noted ?_
 rw[compTurn_list]
 refine wpAny_bind (wpAny_standAt (wpAny_bind (wpAny_mono (turn n s hI) (λr s₁ h₁=>?_) λ_ _ h'=>h')))
 cases r with
 |none=>exact wpAny_pure h₁
 |some v=>
  refine wpAny_bind (wpAny_mono h₁ (λ_ s₁' h₁'=>?_) λ_ _ h'=>h')
  refine wpAny_bind (wpAny_mono h₁' (λ_ s₂ h₂=>wpAny_bind (wpAny_mono h₂ (λok s₃ h₃=>?_) λ_ _ h'=>h')) λ_ _ h'=>h')
  cases ok with
  |false=>exact wpAny_pure ⟨rfl,h₃⟩
  |true=>
   exact wpAny_bind (wpAny_bind (wpAny_mono h₃ (λx s₄ h₄=>wpAny_bind (wpAny_mono h₄ (λ_ s₅ h₅=>wpAny_pure (wpAny_pure ⟨rfl,h₅⟩)) λ_ _ h'=>h')) λ_ _ h'=>h'))
section
variable{X:Cx}
def tLc(wi:TI)(g:TG)(tt:TT)(te:TE)(vs:List Nat):TE:=λσ H Q=>wi σ H λJ H1=>∀D,H1 D=none->∃W:Nat->Nat->Hp->Prop,(∃m,W 0 m (upd H1 D (.lst [])))/\∀i m H,W i m H ->
 (J.stop i H/\Q (.ref D) H)\/(J.go i H/\∃Nx:Hp->Prop,(∀H',Nx H'->∃m',m'<m/\W (i+1) m' H')/\∀x H',J.yld i H x H'->g x (zdc σ vs) H' λσ2 H2=>zdc σ2 vs=zdc σ vs/\tt σ2 H2 λb H3=>
  if b=true then te σ2 H3 λy H4=>∃acc,H4 D=some (.lst acc)/\acc.length<sizeLine/\Nx (upd H4 D (.lst (acc++[y]))) else Nx H3)
theorem zxv{pins:List (Addr×Obj)}{s:Shared}{σ:St}{H:Hp}{Q:VK}{elt tg iter:Expr}{ifs:List Expr}{scope:Scope}{own:List (Str×Nat)}{pos pos':Pos}{wi:TI}{g:TG}{tt:TT}{te:TE}{use:Option (Value->Sem Unit)}{Qf:Value->Shared->Prop}(hc:X.calm=true)(hN:X.N.Nodup)(I:Inv X pins σ H s)(hi:PI X tg iter wi)(ok:zr8 X.N X.env.scope scope own)(hg:∀(s:Shared) (H:Hp) (C:Addr) (cl:List (Str×Addr)) (fp:List Addr),PG (X.blk s H scope (compEnvC scope cl C X.env) fp) tg g)(ht:∀(s:Shared) (H:Hp) (C:Addr) (cl:List (Str×Addr)) (fp:List Addr),PTs (X.blk s H scope (compEnvC scope cl C X.env) fp) ifs tt)(he:∀(s:Shared) (H:Hp) (C:Addr) (cl:List (Str×Addr)) (fp:List Addr),PE (X.blk s H scope (compEnvC scope cl C X.env) fp) elt te)(hs:∀x,foldedSetIterable iter X.env x=pure x)(h:tLc wi g tt te (own.map (·.2)) σ H Q)(hRR:∀D C s' m H',Inv X pins σ H' s'->Q (.ref D) H'->s'.heap.Ns C m->zn9 X pins H' C->compPost (model X.prog X.w) X.A X.xe use Qf (.ref D) C (.ok .next) s') :
  wpAny (model X.prog X.w) X.A (comprehension (.ListComp elt [⟨tg,iter,ifs,0⟩] scope pos) scope X.env pos' (newList []) false (eval iter X.env) use) Qf X.xe s:=by
 have hfree:∀y∈scope.names,y.2=.free->∃c,X.env.cells.lookup y.1=some c:=λy hy e=>by
  rcases ok.free y hy e with k|k
  ·exact I.ok.has _ (.inl k)
  ·exact I.ok.has _ (.inr k)
 refine wpAny_comprehension_free (use:=use) rfl hs (zii hfree) ok.kind (λy hy e=>by rw[ok.uniq y hy,e])
  (thn (hi pins s σ H _ I h) λxv s1 hx=>thn hx λitv s2 h2=>?_)
 obtain⟨it,fp,tn,J,H2,e,I2,T,st2,f2,q⟩:=h2
 subst e
 refine wpAny_newObj_type (zkl ?_) (by show 0<=sizeLine;decide)
 generalize hD:s2.heap.objs.size=D
 have hDn:H2 D=none:=I2.hok.fresh (qg5 hD)
 obtain⟨W,⟨m0,w0⟩,turn⟩:=q D hDn
 generalize hs3:({ s2 with heap:=s2.heap.push { cls:=.type "list",data:=.seq ([]:List Value).toArray } }:Shared)=s3
 have I3:Inv X pins σ (upd H2 D (.lst [])) s3:=by
  rw[<-hs3]
  refine I2.laid (t':=s2.toks) (λb o e=>Heap.get?_push_of_some _ e) (qg5 hD) ⟨qf4 _,[],0,.nil,?_⟩
  rw[<-hD]
  exact Heap.get?_push_size _ rfl
 have h3:s3.heap=s2.heap.push { cls:=.type "list",data:=.seq ([]:List Value).toArray }:=by rw[<-hs3]
 have sz:∀b∈fp,b<s2.heap.objs.size:=λb hb=>by
  obtain⟨o,e,_⟩:=T.obj _ _ st2 b hb
  exact Heap.lt_size e
 have f3:∀b∈fp,zn9 X pins (upd H2 D (.lst [])) b/\b<s3.heap.objs.size:=λb hb=>by
  have hlt:=sz b hb
  refine⟨⟨?_,(f2 b hb).2⟩,by rw[h3,Heap.size_push];exact qh0 hlt⟩
  rw[zah (by rw[<-hD];exact qe9 hlt)]
  exact (f2 b hb).1
 have st3:tn 0 s3.heap:=T.keep _ _ _ st2 λb _ o e=>by rw[h3];exact Heap.get?_push_of_some _ e
 have I4:=zk9 I3 ok hN f3
 have pg:=hg s3 (upd H2 D (.lst [])) s3.heap.objs.size (cellsFrom (s3.heap.objs.size+1) scope.names (za1 X.env.cells scope.names [])) fp
 have pt:=ht s3 (upd H2 D (.lst [])) s3.heap.objs.size (cellsFrom (s3.heap.objs.size+1) scope.names (za1 X.env.cells scope.names [])) fp
 have pe:=he s3 (upd H2 D (.lst [])) s3.heap.objs.size (cellsFrom (s3.heap.objs.size+1) scope.names (za1 X.env.cells scope.names [])) fp
 show codeAny _ _ (.compStart (.ListComp elt [⟨tg,iter,ifs,0⟩] scope pos) 0 (.ref it) (.ref D) (compEnvC scope (cellsFrom (s3.heap.objs.size+1) scope.names (za1 X.env.cells scope.names [])) s3.heap.objs.size X.env)) (compPost (model X.prog X.w) X.A X.xe use Qf (.ref D) s3.heap.objs.size) { s3 with heap:=pushCells (s3.heap.push { cls:=.type "dict",data:=.dict #[] }) scope.names }
 have nfp:∀b∈fp,(upd H2 D (.lst [])) b=none:=λb hb=>(f3 b hb).1.1
 generalize hce:compEnvC scope (cellsFrom (s3.heap.objs.size+1) scope.names (za1 X.env.cells scope.names [])) s3.heap.objs.size X.env=ce at I4 pg pt pe ⊢
 have cL:ce.locals=s3.heap.objs.size:=by subst hce;rfl
 generalize hH3:upd H2 D (.lst [])=H3 at I3 I4 pg pt pe w0 nfp f3
 generalize hs4:({ s3 with heap:=pushCells (s3.heap.push { cls:=.type "dict",data:=.dict #[] }) scope.names }:Shared)=s4 at I4 ⊢
 have st4:tn 0 s4.heap:=T.keep _ _ _ st3 λb _ o e=>by rw[<-hs4];exact pushCells_keeps _ _ _ _ (Heap.get?_push_of_some _ e)
 have stat:∀{σ':St}{H':Hp}{s':Shared},Inv (X.blk s3 H3 scope ce fp) [] σ' H' s'->(∀b∈fp,H' b=none)->∀b∈fp,zn9 (X.blk s3 H3 scope ce fp) [] H' b:=λ{σ' H' s'} I' hn b hb=>
  ⟨hn b hb,(I'.ok.exf b hb).1,I'.ok.exfs b hb,.inl hb,λx c e=>(I'.ok.exf b hb).2 x c e,λp hp=>absurd (show p∈([]:List (Addr×Obj))++[] from hp) (by simp)⟩
 have loop:codeAny (model X.prog X.w) X.A (.compLoop (.ListComp elt [⟨tg,iter,ifs,0⟩] scope pos) 0 (.ref it) (.ref D) ce) (compPost (model X.prog X.w) X.A X.xe use Qf (.ref D) s3.heap.objs.size) s4:=by
  refine zi3 (λn s'=>∃i H',Inv (X.blk s3 H3 scope ce fp) [] (zdc σ (own.map (·.2))) H' s'/\tn i s'.heap/\(∀b∈fp,H' b=none)/\W i n H') ?_ m0 ⟨0,H3,I4,st4,nfp,w0⟩
  rintro n s5 ⟨i,H5,I5,st5,n5,w5⟩
  rcases turn i n H5 w5 with ⟨stop,qq⟩|⟨go,Nx,hNx,step⟩
  ·have td:=T.done (X.blk s3 H3 scope ce fp) rfl rfl rfl hc i [] s5 _ H5 (λ_ _=>False) I5 (stat I5 n5) st5 stop
   refine zvw td λr s6 ⟨hr,I6⟩=>?_
   subst hr
   have I7:Inv X pins σ H5 s6:=I3.call' (ch:=fp) I6.os I6.base I6.hok I6.bare λb hb=>⟨(f3 b hb).1.2.2.2.1,(f3 b hb).1.2.1,(f3 b hb).1.2.2.2.2.1,(f3 b hb).1.2.2.2.2.2⟩
   have nC:H5 s3.heap.objs.size=none:=by
    have z:H5 ce.locals=none:=I6.free
    rw[cL]at z
    exact z
   obtain⟨m,hn,_⟩:=I6.loc
   have hn:s6.heap.Ns ce.locals m:=hn
   rw[cL]at hn
   exact hRR D s3.heap.objs.size s6 m H5 I7 qq hn (I3.fpOk (qek _) nC)
  ·have ti:=T.item (X.blk s3 H3 scope ce fp) rfl rfl rfl hc i [] s5 _ H5 (λ_ _=>False) I5 (stat I5 n5) st5 go
   refine zvw ti λr s6 ⟨u,hr,h6⟩=>?_
   subst hr
   refine zvw h6 λ_ s7 ⟨x,H7,I7,r7,y7,st7,n7⟩=>?_
   have I7':=I7.pinned (stat I7 n7) (T.obj _ _ st7)
   refine zvw (pg _ s7 _ H7 x u _ I7' r7 (step x H7 y7)) λ_ s8 ⟨σ8,H8,I8,hw8,q8⟩=>?_
   refine zvw (pt _ s8 σ8 H8 _ I8 q8) λb s9 ⟨H9,I9,q9⟩=>?_
   have fin:∀{s':Shared}{H':Hp},Inv (X.blk s3 H3 scope ce fp) ([]++zmp fp s7.heap) σ8 H' s'->Nx H'->∃m,m<n/\∃i H',Inv (X.blk s3 H3 scope ce fp) [] (zdc σ (own.map (·.2))) H' s'/\tn i s'.heap/\(∀b∈fp,H' b=none)/\W i m H':=λ{s' H'} I' nx=>by
    obtain⟨m',hm,w'⟩:=hNx H' nx
    have pin':∀b∈fp,∀o,s7.heap.get? b=some o->s'.heap.get? b=some o/\H' b=none:=λb hb o e=>
     let z:=I'.pin (b,o) (qfi _ (qfi _ (zf1 hb e)))
     ⟨z.1,z.2.1⟩
    have hl:(zdc σ (own.map (·.2))).length=σ8.length:=by rw[<-hw8,zel]
    refine⟨m',hm,i+1,H',(I'.unpinned (pins:=[])).weak hl (λj v e=>?_),T.keep _ _ _ st7 λb hb o e=>(pin' b hb o e).1,λb hb=>?_,w'⟩
    ·rw[<-hw8]at e
     exact (zg5 e).1
    ·obtain⟨o,e,_⟩:=T.obj _ _ st7 b hb
     exact (pin' b hb o e).2
   cases b with
   |false=>
    simp only[qe0,if_false]at q9 ⊢
    exact fin I9 q9
   |true=>
    simp only[if_true]at q9 ⊢
    refine zvw (pe _ s9 σ8 H9 _ I9 q9) λz s10 ⟨yv,H10,I10,r10,acc,hD10,hz10,nx⟩=>?_
    exact qbz (X:=X.blk s3 H3 scope ce fp) I10 hD10 hz10 r10 λs11 I11=>fin I11 nx
 exact codeAny_compStart_list loop (T.self X.A 0 _ _ _ st4 loop)
theorem zlt{elt tg iter:Expr}{ifs:List Expr}{scope:Scope}{own:List (Str×Nat)}{pos:Pos}{wi:TI}{g:TG}{tt:TT}{te:TE}(hc:X.calm=true)(hN:X.N.Nodup)(hi:PI X tg iter wi)(ok:zr8 X.N X.env.scope scope own)(hg:∀(s:Shared) (H:Hp) (C:Addr) (cl:List (Str×Addr)) (fp:List Addr),PG (X.blk s H scope (compEnvC scope cl C X.env) fp) tg g)(ht:∀(s:Shared) (H:Hp) (C:Addr) (cl:List (Str×Addr)) (fp:List Addr),PTs (X.blk s H scope (compEnvC scope cl C X.env) fp) ifs tt)(he:∀(s:Shared) (H:Hp) (C:Addr) (cl:List (Str×Addr)) (fp:List Addr),PE (X.blk s H scope (compEnvC scope cl C X.env) fp) elt te)(hs:∀x,foldedSetIterable iter X.env x=pure x:=by intro _;rfl) :
  PE X (.ListComp elt [⟨tg,iter,ifs,0⟩] scope pos) (tLc wi g tt te (own.map (·.2))):=by
 intro pins s σ H Q I h
 rw[eval_ListComp]
 refine zxv hc hN I hi ok hg ht he hs h λD C s' m H' I' q hn f=>⟨m,hn,λh'' sb=>?_⟩
 obtain⟨f0,f1,f2,f3,f4,f5⟩:=f
 exact⟨.ref D,H',I'.turned (t':=s'.toks) (λb o hb e=>(sb.2 b hb).trans e) f0 f1 f3 f4 f5,rfl,q⟩
theorem znf{i:Nat}{y:Str}{py:Pos}{elt tg iter:Expr}{ifs:List Expr}{scope:Scope}{own:List (Str×Nat)}{pos spos:Pos}{wi:TI}{g:TG}{tt:TT}{te:TE}(hc:X.calm=true)(hN:X.N.Nodup)(hy:X.N[i]?=some y)(hyl:X.env.scope.names.lookup y=some .local)(hsw:swapsWith (.ListComp elt [⟨tg,iter,ifs,0⟩] scope pos) (some (.Name y py)) spos.line X.env=pure true)(hi:PI X tg iter wi)(ok:zr8 X.N X.env.scope scope own)(hg:∀(s:Shared) (H:Hp) (C:Addr) (cl:List (Str×Addr)) (fp:List Addr),PG (X.blk s H scope (compEnvC scope cl C X.env) fp) tg g)(ht:∀(s:Shared) (H:Hp) (C:Addr) (cl:List (Str×Addr)) (fp:List Addr),PTs (X.blk s H scope (compEnvC scope cl C X.env) fp) ifs tt)(he:∀(s:Shared) (H:Hp) (C:Addr) (cl:List (Str×Addr)) (fp:List Addr),PE (X.blk s H scope (compEnvC scope cl C X.env) fp) elt te)(hs:∀x,foldedSetIterable iter X.env x=pure x:=by intro _;rfl) :
  PS X (.Assign [.Name y py] (.ListComp elt [⟨tg,iter,ifs,0⟩] scope pos) spos) (tAsg (tLc wi g tt te (own.map (·.2))) (zi6 i)):=by
 intro pins s σ H D I h
 rw[exec_Assign_Name_used _ _ _ _ hsw]
 refine wpAny_bind (wpAny_standAt (wpAny_bind ?_))
 show wpAny _ X.A (do let _ <-comprehension (.ListComp elt [⟨tg,iter,ifs,0⟩] scope pos) scope X.env (firstIterPos [⟨tg,iter,ifs,0⟩] pos) (newList []) false (eval iter X.env) (some (assign (.Name y py) X.env))) _ _ s
 have h:tLc wi g tt te (own.map (·.2)) σ H (λx H1=>zi6 i x σ H1 D.nx):=h
 refine wpAny_bind (thn (zxv (Qf:=λ_ s'=>SP X pins D .next s') hc hN I hi ok hg ht he hs h λL C s' m H' I' q hn f=>?_) λ_ s' hq=>wpAny_pure (wpAny_pure hq))
 show wpAny _ _ (assign (.Name y py) X.env (.ref L)) _ _ _
 refine wpAny_assign_Name (zjv (v:=V.ref L) I' hN hy (.inl hyl) rfl (λs2 I2 ⟨a,sb,ha⟩=>?_) (.inr hyl))
 obtain⟨f0,f1,f2,f3,f4,f5⟩:=f
 have haC:C≠a:=by
  rcases ha with z|z
  ·rw[z];exact f1
  ·exact λe=>f4 y a z e.symm
 refine⟨m,hn.sameBut sb haC,λh3 sb3=>?_⟩
 exact⟨_,H',I2.turned (t':=s2.toks) (λb o hb e=>(sb3.2 b hb).trans e) f0 f1 f3 f4 f5,q⟩
end
theorem zta{lo:Int}{n:Nat}{g:TG}{tt:TT}{te:TE}{vs:List Nat}{σ:St}{H1:Hp}{D:Addr}{Qd:Hp->Prop}(Pv:Nat->Hp->Prop)(h0:Pv 0 (upd H1 D (.lst [])))(hs:∀i H,i<n->Pv i H->g (.int (lo+i)) (zdc σ vs) H λσ2 H2=>zdc σ2 vs=zdc σ vs/\tt σ2 H2 λb H3=>
   if b=true then te σ2 H3 λy H4=>∃acc,H4 D=some (.lst acc)/\acc.length<sizeLine/\Pv (i+1) (upd H4 D (.lst (acc++[y]))) else Pv (i+1) H3)(hd:∀H,Pv n H->Qd H) :
  ∃W:Nat->Nat->Hp->Prop,(∃m,W 0 m (upd H1 D (.lst [])))/\∀i m H,W i m H ->
   ((Itr lo n).stop i H/\Qd H)\/((Itr lo n).go i H/\∃Nx:Hp->Prop,(∀H',Nx H'->∃m',m'<m/\W (i+1) m' H')/\∀x H',(Itr lo n).yld i H x H'->g x (zdc σ vs) H' λσ2 H2=>zdc σ2 vs=zdc σ vs/\tt σ2 H2 λb H3=>
    if b=true then te σ2 H3 λy H4=>∃acc,H4 D=some (.lst acc)/\acc.length<sizeLine/\Nx (upd H4 D (.lst (acc++[y]))) else Nx H3):=by
 refine⟨λi m H=>m=n - i/\i<=n/\Pv i H,⟨n,by simp,qf4 _,h0⟩,?_⟩
 rintro i m H ⟨rfl,hi,p⟩
 by_cases hlt:i<n
 ·refine .inr ⟨hlt,Pv (i+1),λH' p'=>⟨n - (i+1),by lia,rfl,hlt,p'⟩,λx H' y=>?_⟩
  obtain⟨e,y⟩:=y
  subst e y
  exact hs i _ hlt p
 ·have e:i=n:=by lia
  subst e
  exact .inl ⟨qek _,hd H p⟩
theorem zfk{K:qed}{a:Addr}{xs:List V}{g:TG}{tt:TT}{te:TE}{vs:List Nat}{σ:St}{H1:Hp}{D:Addr}{Qd:Hp->Prop}(Pv:Nat->Hp->Prop)(h0:Pv 0 (upd H1 D (.lst [])))(hl:∀i H,i<=xs.length->Pv i H->SqL K H a xs)(hs:∀i x H,xs[i]?=some x->Pv i H->g x (zdc σ vs) H λσ2 H2=>zdc σ2 vs=zdc σ vs/\tt σ2 H2 λb H3=>
   if b=true then te σ2 H3 λy H4=>∃acc,H4 D=some (.lst acc)/\acc.length<sizeLine/\Pv (i+1) (upd H4 D (.lst (acc++[y]))) else Pv (i+1) H3)(hd:∀H,Pv xs.length H->Qd H) :
  ∃W:Nat->Nat->Hp->Prop,(∃m,W 0 m (upd H1 D (.lst [])))/\∀i m H,W i m H ->
   ((Itl K a).stop i H/\Qd H)\/((Itl K a).go i H/\∃Nx:Hp->Prop,(∀H',Nx H'->∃m',m'<m/\W (i+1) m' H')/\∀x H',(Itl K a).yld i H x H'->g x (zdc σ vs) H' λσ2 H2=>zdc σ2 vs=zdc σ vs/\tt σ2 H2 λb H3=>
    if b=true then te σ2 H3 λy H4=>∃acc,H4 D=some (.lst acc)/\acc.length<sizeLine/\Nx (upd H4 D (.lst (acc++[y]))) else Nx H3):=by
 refine⟨λi m H=>m=xs.length - i/\i<=xs.length/\Pv i H,⟨xs.length,by simp,qf4 _,h0⟩,?_⟩
 rintro i m H ⟨rfl,hi,p⟩
 have q:=hl i H hi p
 by_cases hlt:i<xs.length
 ·refine .inr ⟨⟨xs,xs[i],q,by simp[hlt]⟩,Pv (i+1),λH' p'=>⟨xs.length - (i+1),by lia,rfl,hlt,p'⟩,λx H' y=>?_⟩
  obtain⟨e,y⟩:=y
  subst e
  exact hs i x _ (y xs q) p
 ·have e:i=xs.length:=by lia
  subst e
  exact .inl ⟨⟨xs,q,qek _⟩,hd H p⟩
def blkC(N:List Str)(sc scope:Scope)(own:List (Str×Nat)):Bool:=
 (match scope.kind with|.function=>true|_=>false) && (scope.names.all λy=>decide (scope.names.lookup y.1=some y.2)) && (own.all λp=>decide (N[p.2]?=some p.1)) &&
  (scope.names.all λy=>match y.2 with
   |.free=>(match sc.names.lookup y.1 with|some .cell=>true|some .free=>true|_=>false)
   |.local=>decide (y.1∈own.map (·.1)) || decide (y.1 ∉ N)
   |.cell=>decide (y.1∈own.map (·.1)) || decide (y.1 ∉ N)
   |_=>true)
theorem zbr{N:List Str}{sc scope:Scope}{own:List (Str×Nat)}(h:blkC N sc scope own=true):zr8 N sc scope own:=by
 unfold blkC at h
 simp only[qev,qeo,decide_eq_true_eq]at h
 obtain⟨⟨⟨h1,h2⟩,h3⟩,h4⟩:=h
 refine⟨?_,h2,h3,λy hy e=>?_,λy hy e=>?_⟩
 ·split at h1
  ·assumption
  ·cases h1
 ·have q:=h4 y hy
  simp only[e]at q
  split at q <;> first|exact .inl (by assumption)|exact .inr (by assumption)|cases q
 ·have q:=h4 y hy
  rcases e with e|e <;> (simp only[e,Bool.or_eq_true,decide_eq_true_eq]at q;exact q)
section
variable{κ:Type}[DecidableEq κ]
def zez(kvs:List (κ×V))(k:κ):Option V:=(kvs.find? λkv=>decide (kv.1=k)).map (·.2)
def zh3(kvs:List (κ×V))(k:κ)(v:V):List (κ×V):=
 if (kvs.any λkv=>decide (kv.1=k))=true then kvs.map (λkv=>if kv.1=k then (kv.1,v) else kv) else kvs++[(k,v)]
theorem zch{p:κ×V}{r:List (κ×V)}{k:κ}(e:p.1=k):zez (p::r) k=some p.2:=by simp[zez,qfu,e]
theorem zci{p:κ×V}{r:List (κ×V)}{k:κ}(e:¬p.1=k):zez (p::r) k=zez r k:=by simp[zez,qfu,e]
theorem zg7(k:κ):∀kvs:List (κ×V),(kvs.any λkv=>decide (kv.1=k))=(zez kvs k).isSome
 |[]=>rfl
 |p::r=>by
  rw[qg2]
  by_cases e:p.1=k
  ·simp only[zch e,decide_eq_true e,Bool.true_or,Option.isSome_some]
  ·rw[zci e,decide_eq_false e,qjn];exact zg7 k r
theorem zsa(k j:κ)(y:V):∀kvs:List (κ×V),zez (kvs.map λkv=>if kv.1=k then (kv.1,y) else kv) j=(zez kvs j).map λx=>if j=k then y else x
 |[]=>rfl
 |p::r=>by
  have ih:=zsa k j y r
  rw[qfh]
  by_cases h:p.1=k
  ·rw[if_pos h]
   by_cases e:p.1=j
   ·rw[zch (p:=(p.1,y)) e,zch e,qez,if_pos (e.symm.trans h)]
   ·rw[zci (p:=(p.1,y)) e,zci e,ih]
  ·rw[if_neg h]
   by_cases e:p.1=j
   ·rw[zch (p:=p) e,zch e,qez,if_neg (λz=>h (e.trans z))]
   ·rw[zci (p:=p) e,zci e,ih]
theorem zoe(k j:κ)(y:V):∀kvs:List (κ×V),zez kvs k=none->zez (kvs++[(k,y)]) j=if j=k then some y else zez kvs j
 |[],_=>by
  by_cases e:k=j
  ·rw[if_pos e.symm];exact zch (p:=(k,y)) e
  ·rw[if_neg (λz=>e z.symm)];exact zci (p:=(k,y)) e
 |p::r,hn=>by
  rw[qfz]
  have hk:¬p.1=k:=λz=>by rw[zch z]at hn;cases hn
  rw[zci hk]at hn
  have ih:=zoe k j y r hn
  by_cases e:p.1=j
  ·rw[zch e,zch e,if_neg (λz=>hk (e.trans z))]
  ·rw[zci e,zci e,ih]
theorem zg6(kvs:List (κ×V))(k j:κ)(y:V):zez (zh3 kvs k y) j=if j=k then some y else zez kvs j:=by
 unfold zh3
 by_cases a:(kvs.any λkv=>decide (kv.1=k))=true
 ·rw[if_pos a,zsa]
  rw[zg7]at a
  by_cases e:j=k
  ·obtain⟨x,hx⟩:=qiq.mp a
   rw[if_pos e,e,hx,qez,if_pos rfl]
  ·rw[if_neg e]
   cases zez kvs j with
   |none=>rfl
   |some x=>rw[qez,if_neg e]
 ·rw[if_neg a]
  refine zoe k j y kvs ?_
  rw[zg7]at a
  cases q:zez kvs k with
  |none=>rfl
  |some x=>rw[q]at a;exact (a rfl).elim
theorem zgv(kvs:List (κ×V))(k:κ)(v:V):(zh3 kvs k v).length<=kvs.length+1:=by
 unfold zh3
 split
 ·rw[qec];lia
 ·rw[qee,qeg,qe8];lia
theorem zjd{kvs:List (κ×V)}{k:κ}(v:V)(h:zez kvs k=none):zh3 kvs k v=kvs++[(k,v)]:=by
 unfold zh3
 rw[zg7,h]
 exact if_neg (by decide)
theorem RelO.isSome_eq{o:Option V}{u:Option Value}(r:RelO o u):o.isSome=u.isSome:=by
 cases o with
 |none=>cases u with
  |none=>rfl
  |some _=>exact (show False from r).elim
 |some _=>cases u with
  |none=>exact (show False from r).elim
  |some _=>rfl
theorem RelO.getD{o:Option V}{u:Option Value}{d:V}{d':Value}(r:RelO o u)(rd:RelV d d'):RelV (o.getD d) (u.getD d'):=by
 cases o with
 |none=>cases u with
  |none=>exact rd
  |some _=>exact (show False from r).elim
 |some _=>cases u with
  |none=>exact (show False from r).elim
  |some _=>exact r
theorem KV.val{kvs:List (κ×V)}{vs:List (κ×Value)}(r:KV kvs vs)(k:κ):RelO (zez kvs k) (valueAt vs k):=by
 unfold KV at r
 induction r with
 |nil=>exact True.intro
 | @cons p q ps qs h t ih=>
  obtain⟨h1,h2⟩:=h
  by_cases e:p.1=k
  ·have e':q.1=k:=h1.symm.trans e
   have b:valueAt (q::qs) k=some q.2:=by simp[valueAt,qfu,e']
   rw[zch e,b];exact h2
  ·have e':¬q.1=k:=λz=>e (h1.trans z)
   have b:valueAt (q::qs) k=valueAt qs k:=by simp[valueAt,qfu,e']
   rw[zci e,b];exact ih
theorem KV.any{kvs:List (κ×V)}{vs:List (κ×Value)}(r:KV kvs vs)(k:κ):(kvs.any λkv=>decide (kv.1=k))=vs.any λkv=>decide (kv.1=k):=by
 unfold KV at r
 induction r with
 |nil=>rfl
 |cons h t ih=>rw[qg2,qg2,ih,h.1]
theorem KV.repl{kvs:List (κ×V)}{vs:List (κ×Value)}(r:KV kvs vs)(k:κ){y:V}{u:Value}(ry:RelV y u) :
  KV (kvs.map λkv=>if kv.1=k then (kv.1,y) else kv) (vs.map λkv=>if kv.1=k then (kv.1,u) else kv):=by
 unfold KV at r ⊢
 induction r with
 |nil=>exact .nil
 | @cons p q ps qs h t ih=>
  rw[qfh,qfh]
  refine .cons ?_ ih
  obtain⟨h1,h2⟩:=h
  by_cases e:p.1=k
  ·rw[if_pos e,if_pos (h1.symm.trans e)];exact⟨h1,ry⟩
  ·rw[if_neg e,if_neg (λz=>e (h1.trans z))];exact⟨h1,h2⟩
theorem KV.put{kvs:List (κ×V)}{vs:List (κ×Value)}(r:KV kvs vs)(k:κ){y:V}{u:Value}(ry:RelV y u):KV (zh3 kvs k y) (stored vs k u):=by
 unfold zh3 stored
 rw[r.any k]
 by_cases e:(vs.any λkv=>decide (kv.1=k))=true
 ·rw[if_pos e,if_pos e];exact r.repl k ry
 ·rw[if_neg e,if_neg e];exact Paired.snoc r ⟨rfl,ry⟩
theorem KV.length{kvs:List (κ×V)}{vs:List (κ×Value)}(r:KV kvs vs):kvs.length=vs.length:=Paired.length r
end
theorem zuu{P:Program}{w:World}{k:Key}{u:Value}(r:RelV (kV k) u):(zbg P w).is k u=true:=by
 cases k with
 |inl i=>obtain⟨t,e⟩:=(show ∃t,u=Value.int i t from r);subst e;exact zrd P w i t
 |inr x=>obtain⟨t,e⟩:=(show ∃t,u=Value.str x t from r);subst e;exact zrc P w x t
theorem zpi{P:Program}{w:World}:∀{ks:List Key}{us:List Value},Vals (ks.map kV) us->ItemsAre (zbg P w) ks us
 |[],_,r=>by rw[qhq]at r;cases r;exact .nil
 |k::ks,_,r=>by
  rw[qfh]at r
  cases r with
  |cons h t=>exact .cons (zuu h) (zpi t)
abbrev KT(H:Hp):List (List Key×V)->List (List Key×Addr×Value)->Prop:=Paired λp q=>p.1=q.1/\H q.2.1=some (.tup (p.1.map kV))/\RelV p.2 q.2.2
theorem KT.val{H:Hp}{kvs:List (List Key×V)}{xs:List (List Key×Addr×Value)}(r:KT H kvs xs)(k:List Key):RelO (zez kvs k) ((atKey xs k).map (·.2)):=by
 induction r with
 |nil=>exact True.intro
 | @cons p q ps qs h t ih=>
  obtain⟨h1,_,h2⟩:=h
  by_cases e:p.1=k
  ·have e':q.1=k:=h1.symm.trans e
   have b:atKey (q::qs) k=some q.2:=by simp[atKey,qfu,e']
   rw[zch e,b];exact h2
  ·have e':¬q.1=k:=λz=>e (h1.trans z)
   have b:atKey (q::qs) k=atKey qs k:=by simp[atKey,qfu,e']
   rw[zci e,b];exact ih
theorem KT.repl{H:Hp}{kvs:List (List Key×V)}{xs:List (List Key×Addr×Value)}(r:KT H kvs xs)(k:List Key){y:V}{u:Value}(ry:RelV y u) :
  KT H (kvs.map λkv=>if kv.1=k then (kv.1,y) else kv) (xs.map (putAt k u)):=by
 induction r with
 |nil=>exact .nil
 | @cons p q ps qs h t ih=>
  rw[qfh,qfh]
  refine .cons ?_ ih
  obtain⟨h1,h2,h3⟩:=h
  unfold putAt
  by_cases e:p.1=k
  ·rw[if_pos e,if_pos (h1.symm.trans e)];exact⟨h1,h2,ry⟩
  ·rw[if_neg e,if_neg (λz=>e (h1.trans z))];exact⟨h1,h2,h3⟩
theorem KT.put{H:Hp}{kvs:List (List Key×V)}{xs:List (List Key×Addr×Value)}(r:KT H kvs xs)(k:List Key){b:Addr}{y:V}{u:Value}(hb:H b=some (.tup (k.map kV)))(ry:RelV y u) :
  KT H (zh3 kvs k y) (storedH xs k b u):=by
 have e:(kvs.any λkv=>decide (kv.1=k))=(atKey xs k).isSome:=by
  rw[zg7,(r.val k).isSome_eq,Option.isSome_map]
 unfold zh3 storedH
 rw[e]
 by_cases q:(atKey xs k).isSome=true
 ·rw[if_pos q,if_pos q];exact r.repl k ry
 ·rw[if_neg q,if_neg q];exact Paired.snoc r ⟨rfl,hb,ry⟩
theorem KT.keeps{H H':Hp}{kvs:List (List Key×V)}{xs:List (List Key×Addr×Value)}(r:KT H kvs xs)(ht:∀b ys,H b=some (.tup ys)->H' b=some (.tup ys)):KT H' kvs xs:=
 Paired.mapP r λ_ _ z=>⟨z.1,ht _ _ z.2.1,z.2.2⟩
section
variable{P:Program}{w:World}{H:Hp}{h:Heap}{a:Addr}
theorem rd_of{u:HO}(ok:HOk P w H h)(e:Rd H a u):ObjOk P w H h a u:=e.ok ok
theorem zu3{kvs:List (Key×V)}(ok:HOk P w H h)(e:Rd H a (.dK kvs)):kvs.length<=sizeLine/\(a == sysModules)=false/\∃vs,KV kvs vs/\h.DictOf (zbg P w) a vs:=
 show ObjOk P w H h a (.dK kvs) from rd_of ok e
theorem dk_of{kvs:List (Key×V)}(ok:HOk P w H h)(e:H a=some (.dK kvs)):kvs.length<=sizeLine/\(a == sysModules)=false/\∃vs,KV kvs vs/\h.DictOf (zbg P w) a vs:=zu3 ok (.inl e)
theorem zpg{ks:List Key}(ok:HOk P w H h)(e:H a=some (.tup (ks.map kV))):(tupleKind (zbg P w)).is h ks a:=by
 obtain⟨_,its,r,o,h1,h2,n,h3⟩:=(show ObjOk P w H h a (.tup (ks.map kV)) from ok a _ e)
 exact⟨o,its.toArray,n,h1,h2,h3,by simpa using zpi r⟩
theorem zu2{kvs:List (List Key×V)}(ok:HOk P w H h)(e:Rd H a (.dT kvs)):kvs.length<=sizeLine/\(a == sysModules)=false ∧
  ∃xs,KT H kvs xs/\h.DictOfH (tupleKind (zbg P w)) a xs:=by
 obtain⟨z,y,xs,r,o,es,ep,h1,h2,h3,h4,h5⟩:=(show ObjOk P w H h a (.dT kvs) from rd_of ok e)
 refine⟨z,y,xs,r,o,es,ep,h1,h2,h3,h4,λx hx=>?_,h5⟩
 have all:∀{l:List (List Key×V)}{m:List (List Key×Addr×Value)},KT H l m->∀x∈m,(tupleKind (zbg P w)).is h x.1 x.2.1:=by
  intro l m q
  induction q with
  |nil=>intro x hx;exact nomatch hx
  | @cons p q ps qs hq t ih=>
   intro x hx
   rcases qer.mp hx with e|hx
   ·subst e
    exact zpg ok (by rw[<-hq.1];exact hq.2.1)
   ·exact ih x hx
 exact all r x hx
theorem dt_of{kvs:List (List Key×V)}(ok:HOk P w H h)(e:H a=some (.dT kvs)):kvs.length<=sizeLine/\(a == sysModules)=false ∧
  ∃xs,KT H kvs xs/\h.DictOfH (tupleKind (zbg P w)) a xs:=zu2 ok (.inl e)
end
def DGet(H:Hp)(a:Addr)(y:V)(r:Option V):Prop:=
 (∃kvs k,Rd H a (.dK kvs)/\y=kV k/\r=zez kvs k)\/∃kvs k b,Rd H a (.dT kvs)/\y=.ref b/\H b=some (.tup (k.map kV))/\r=zez kvs k
def DPut(H:Hp)(a:Addr)(y v:V)(H':Hp):Prop:=
 (∃kvs k,H a=some (.dK kvs)/\y=kV k/\kvs.length<sizeLine/\H'=upd H a (.dK (zh3 kvs k v))) ∨
 ∃kvs k b,H a=some (.dT kvs)/\y=.ref b/\H b=some (.tup (k.map kV))/\kvs.length<sizeLine/\H'=upd H a (.dT (zh3 kvs k v))
theorem DGet.k{H:Hp}{a:Addr}{kvs:List (Key×V)}{k:Key}(e:H a=some (.dK kvs)):DGet H a (kV k) (zez kvs k):=.inl ⟨kvs,k,.inl e,rfl,rfl⟩
theorem DPut.k{H:Hp}{a:Addr}{kvs:List (Key×V)}{k:Key}{v:V}(e:H a=some (.dK kvs))(hl:kvs.length<sizeLine):DPut H a (kV k) v (upd H a (.dK (zh3 kvs k v))):=.inl ⟨kvs,k,e,rfl,hl,rfl⟩
section
variable{X:Cx}{pins:List (Addr×Obj)}{σ:St}{H:Hp}{s:Shared}{a:Addr}{y v:V}{u r:Value}{o:Option V}{A:Around}{E:Value->Shared->Prop}
theorem Inv.big(I:Inv X pins σ H s):sysModules<s.heap.objs.size:=by
 have h:mainGlobals<s.heap.objs.size:=(I.mod.glob.keeps I.bk).lt
 exact qjr (by decide) h
theorem zyn{Q:Value->Shared->Prop}(hu:A.units+1<cLine)(I:Inv X pins σ H s)(g:DGet H a y (some v))(ry:RelV y u)(h:∀w' s',Inv X pins σ H s'->RelV v w'->Q w' s') :
  wpAny (model X.prog X.w) A (getItem (.ref a) u) Q E s:=by
 rcases g with ⟨kvs,k,e,ey,l⟩|⟨kvs,k,b,e,ey,eb,l⟩
 ·subst ey
  obtain⟨z,hd,vs,rel,dd⟩:=zu3 I.hok e
  obtain⟨w',hw,rw'⟩:=RelO.some_of (v:=v) (o:=valueAt vs k) (by rw[l];exact rel.val k)
  exact wpAny_getItem_of (zuu ry) dd.mapOf hw (h w' _ (I.tok _) rw')
 ·subst ey
  cases (show u=Value.ref b from ry)
  obtain⟨z,hd,xs,rel,dd⟩:=zu2 I.hok e
  obtain⟨w',hw,rw'⟩:=RelO.some_of (v:=v) (o:=(atKey xs k).map (·.2)) (by rw[l];exact rel.val k)
  obtain⟨p,hp,hp2⟩:=qei.mp hw
  refine wpAny_getItem_heap (tupleKind_room_in1 hu) (zpg I.hok eb) dd hp ?_
  rw[hp2]
  exact h w' _ (I.tok _) rw'
theorem d_in{Q:Value->Shared->Prop}(hu:A.units+1<cLine)(I:Inv X pins σ H s)(g:DGet H a y o)(ry:RelV y u)(h:∀s',Inv X pins σ H s'->Q (.bool o.isSome) s') :
  wpAny (model X.prog X.w) A (compareOp .In u (.ref a)) Q E s:=by
 rcases g with ⟨kvs,k,e,ey,l⟩|⟨kvs,k,b,e,ey,eb,l⟩
 ·subst ey
  obtain⟨z,hd,vs,rel,dd⟩:=zu3 I.hok e
  refine wpAny_in_of (zuu ry) hd dd.mapOf ?_
  rw[<-(rel.val k).isSome_eq,<-l]
  exact h _ (I.tok _)
 ·subst ey
  cases (show u=Value.ref b from ry)
  obtain⟨z,hd,xs,rel,dd⟩:=zu2 I.hok e
  refine wpAny_in_heap (tupleKind_room_in1 hu) (zpg I.hok eb) hd dd ?_
  have q:=(rel.val k).isSome_eq
  rw[Option.isSome_map]at q
  rw[<-q,<-l]
  exact h _ (I.tok _)
theorem zyl{h':Heap}{t':Nat}{ob:HO}(I:Inv X pins σ H s)(mu:Mut (H a))(hs:Heap.SameBut a s.heap h')(he:∃q,h'.get? a=some q)(new:ObjOk X.prog X.w (upd H a ob) h' a ob) :
  Inv X pins σ (upd H a ob) { s with heap:=h',toks:=t' }:=
 I.write (x:=a) (e:=a) mu (.inl rfl) (λb q hb z=>(hs.2 b hb).trans z) he new
theorem dk_new{P:Program}{w:World}{H':Hp}{h':Heap}{kvs:List (Key×V)}{vs:List (Key×Value)}(z:kvs.length<=sizeLine)(hd:(a == sysModules)=false)(rel:KV kvs vs)(dd:h'.DictOf (zbg P w) a vs) :
  ObjOk P w H' h' a (.dK kvs):=⟨z,hd,vs,rel,dd⟩
theorem zym{H':Hp}{Q:Unit->Shared->Prop}(hu:A.units+1<cLine)(I:Inv X pins σ H s)(g:DPut H a y v H')(ry:RelV y u)(rv:RelV v r)(h:∀s',Inv X pins σ H' s'->Q () s') :
  wpAny (model X.prog X.w) A (setItem (.ref a) u r) Q E s:=by
 rcases g with ⟨kvs,k,e,ey,l,eH⟩|⟨kvs,k,b,e,ey,eb,l,eH⟩
 ·subst ey eH
  obtain⟨z,hd,vs,rel,dd⟩:=dk_of I.hok e
  have hz:vs.length<=sizeLine:=by rw[<-rel.length];exact z
  have hl:(zh3 kvs k v).length<=sizeLine:=by have:=zgv kvs k v;lia
  refine wpAny_setItem_pairs (hsz:=hz) (zuu ry) dd λh' dd' hs=>h _ ?_
  have he:∃q,h'.get? a=some q:=let ⟨q,_,_,hq,_⟩:=dd';⟨q,hq⟩
  exact zyl I (by rw[e];exact True.intro) hs he (dk_new hl hd (rel.put k rv) dd')
 ·subst ey eH
  cases (show u=Value.ref b from ry)
  obtain⟨z,hd,xs,rel,dd⟩:=dt_of I.hok e
  have hz:xs.length<=sizeLine:=by rw[<-Paired.length rel];exact z
  have hl:(zh3 kvs k v).length<=sizeLine:=by have:=zgv kvs k v;lia
  refine wpAny_setItem_heap (hsz:=hz) (tupleKind_room_in1 hu) (zpg I.hok eb) dd λh' dd' hs=>h _ ?_
  obtain⟨q,es,ep,hq,h2,h3,h4,_,h5⟩:=dd'
  refine zyl I (by rw[e];exact True.intro) hs ⟨q,hq⟩ ⟨hl,hd,_,(rel.put k eb rv).keeps λc ys ec=>?_,q,es,ep,hq,h2,h3,h4,h5⟩
  rw[zah (zf6 ec e (λz=>nomatch z))]
  exact ec
end
def NoSl(i:Expr):Prop:=∀ov iv,subscripted i false ov iv=operate [ov,iv] (getItem ov iv)
theorem qcb{prog:Program}{w:World}{A:Around}{E:Value->Shared->Prop}{s:Shared}{env:Env}{value slice:Expr}{pos:Pos}{T id:String}{Q:Value->Shared->Prop}(hl:typeLookup (.type T) "__getitem__"=pure (some (.builtin id)))(hs:NoSl slice)(h:wpAny (model prog w) A (eval value env) (λo s₁=>wpAny (model prog w) A (eval slice env) (λi s₂=>s₂.TypeIs o T/\wpAny (model prog w) A (getItem o i) Q E s₂) E s₁) E s) :
  wpAny (model prog w) A (eval (.Subscript value slice pos) env) Q E s:=by
 refine Subscript_ (wpAny_mono h (λo s₁ h₁=>wpAny_mono h₁ (λi s₂ h₂=>?_) λ_ _ x=>x) λ_ _ x=>x)
 obtain⟨hT,h₂⟩:=h₂
 unfold subscriptTail
 refine wpAny_bind ?_
 rw[getitemInPython_of_ne hT.not_modules]
 refine wpAny_bind (wpAny_specialOf hT hl ?_)
 have fin:wpAny (model prog w) A (subscripted slice false o i) (λr s₃=>wpAny (model prog w) A (letTemporaryGo value o r >>= λ_=>pure r) Q E s₃) E s₂:=by
  rw[hs o i]
  exact wpAny_operating (wpAny_mono h₂ (λr s₃ h₃=>wpAny_bind (wpAny_letTemporaryGo (wpAny_pure h₃))) λ_ _ x=>x)
 first
  |exact wpAny_pure (wpAny_bind fin)
  |exact wpAny_bind (wpAny_pure (wpAny_bind fin))
  |exact wpAny_bind fin
theorem zrn{X:Cx}{pins:List (Addr×Obj)}{σ:St}{H:Hp}{s:Shared}{a:Addr}{y:V}{o:Option V}(I:Inv X pins σ H s)(g:DGet H a y o):s.TypeIs (.ref a) "dict":=by
 rcases g with ⟨kvs,k,e,_,_⟩|⟨kvs,k,b,e,_,_,_⟩
 ·obtain⟨_,_,vs,_,dd⟩:=zu3 I.hok e
  exact dd.typeIs
 ·obtain⟨_,_,xs,_,dd⟩:=zu2 I.hok e
  exact dd.typeIs
def tDGet(td ty:TE):TE:=λσ H Q=>td σ H λx H1=>ty σ H1 λy H2=>∃a v,x=.ref a/\DGet H2 a y (some v)/\Q v H2
def tDIn(ty td:TE):TE:=λσ H Q=>ty σ H λy H1=>td σ H1 λx H2=>∃a o,x=.ref a/\DGet H2 a y o/\Q (.bl o.isSome) H2
def sDPut(td ty tv:TE):TS:=λD σ H=>tv σ H λv H1=>td σ H1 λx H2=>ty σ H2 λy H3=>∃a H4,x=.ref a/\DPut H3 a y v H4/\D.nx σ H4
section
variable{X:Cx}{o i e value:Expr}{pos pos' tpos:Pos}{td ty tv:TE}
theorem zfd(hu:X.A.units+1<cLine)(ho:PE X o td)(hi:PE X i ty)(hs:NoSl i):PE X (.Subscript o i pos) (tDGet td ty):=by
 intro pins s σ H Q I h
 refine qcb PySem.F.slot_dict_getitem.lookup hs (thn (ho pins s σ H _ I h) λu s1 ⟨x,H1,I1,rx,q1⟩=>thn (hi pins s1 σ H1 _ I1 q1) λiv s2 ⟨y,H2,I2,ry,a,v,ex,g,q2⟩=>?_)
 subst ex
 obtain rfl:u=Value.ref a:=rx
 exact⟨zrn I2 g,zyn hu I2 g ry λw' s3 I3 rw'=>⟨v,H2,I3,rw',q2⟩⟩
theorem zmq(hu:X.A.units+1<cLine)(hi:PE X i ty)(ho:PE X o td):PC X .In i o (tDIn ty td):=by
 intro pins s σ H Q I h
 refine thn (hi pins s σ H _ I h) λiv s1 ⟨y,H1,I1,ry,q1⟩=>thn (ho pins s1 σ H1 _ I1 q1) λu s2 ⟨x,H2,I2,rx,a,ov,ex,g,q2⟩=>?_
 subst ex
 obtain rfl:u=Value.ref a:=rx
 exact d_in hu I2 g ry λs3 I3=>⟨.bl ov.isSome,H2,I3,rfl,q2⟩
theorem zkc(hu:X.A.units+1<cLine)(ho:PE X o td)(hi:PE X i ty)(hv:PE X value tv)(hs:swapsWith value (some (.Subscript o i pos')) pos.line X.env=pure false) :
  PS X (.Assign [.Subscript o i pos'] value pos) (sDPut td ty tv):=by
 intro pins s σ H D I h
 refine wpAny_Assign_Subscript (thn (hv pins s σ H _ I h) λr s1 ⟨v,H1,I1,rv,q1⟩=>thn (ho pins s1 σ H1 _ I1 q1) λu s2 ⟨x,H2,I2,rx,q2⟩=>thn (hi pins s2 σ H2 _ I2 q2) λiv s3 ⟨y,H3,I3,ry,a,H4,ex,g,q3⟩=>?_) hs
 subst ex
 obtain rfl:u=Value.ref a:=rx
 exact zym hu I3 g ry rv λs4 I4=>⟨σ,H4,I4,q3⟩
end
theorem qa4{P:Program}{w:World}{H:Hp}(h:Heap)(hb:sysModules<h.objs.size):ObjOk P w H (h.push { cls:=.type "dict",data:=.dict #[] }) h.objs.size (.dK []):=
 ⟨qf4 _,beq_eq_false_iff_ne.mpr (Ne.symm (qe9 hb)),[],.nil,Heap.DictOf.new h⟩
def tDNewK:TE:=λ_ H Q=>∀p,H p=none->Q (.ref p) (upd H p (.dK []))
section
variable{X:Cx}{pos:Pos}
theorem zje:PE X (.Dict [] [] pos) tDNewK:=λpins s σ H Q I h=>
 wpAny_Dict_empty ⟨.ref s.heap.objs.size,_,I.laid (a:=s.heap.objs.size) (o:=.dK []) (t':=s.toks) (λ_ _ q=>Heap.get?_push_of_some _ q) (qek _) (qa4 s.heap I.big),rfl,h _ (I.hok.fresh (qek _))⟩
end
def zd2(kvs more:List (Key×V)):List (Key×V):=more.foldl (λacc kv=>zh3 acc kv.1 kv.2) kvs
theorem KV.merge:∀{more:List (Key×V)}{rs:List (Key×Value)}{kvs:List (Key×V)}{vs:List (Key×Value)},KV more rs->KV kvs vs->KV (zd2 kvs more) (merged vs rs):=by
 intro more rs kvs vs r
 unfold KV at r
 induction r generalizing kvs vs with
 |nil=>intro q;exact q
 | @cons p q ps qs h t ih=>
  intro r0
  have e:KV (zh3 kvs p.1 p.2) (stored vs q.1 q.2):=by
   have:=r0.put p.1 h.2
   rw[<-h.1];exact this
  exact ih e
theorem zhn:∀(more kvs:List (Key×V)),(zd2 kvs more).length<=kvs.length+more.length
 |[],kvs=>by show kvs.length<=kvs.length+0;lia
 |p::r,kvs=>by
  have h1:=zhn r (zh3 kvs p.1 p.2)
  have h2:=zgv kvs p.1 p.2
  show (zd2 (zh3 kvs p.1 p.2) r).length<=_
  rw[qeg];lia
structure M2(X:Cx)(o:Expr)(m:Str)(apos:Pos)(e f:Expr)(cpos:Pos):Prop where
 base:attributeBase o m X.env (eval o X.env)=eval o X.env
 few:((backTo cpos (starEach [e,f] X.env)).all (λx=>!x.1) && (backToKw cpos (keywordEach [] X.env)).all (λx=>x.1.isSome)
  && decide (([e,f]:List Expr).length+([]:List Keyword).length+(if ([]:List Keyword).isEmpty then 0 else 1)<30))=true
 line:(apos.endLine == cpos.line)=true
 trees:backTo cpos (starEach [e,f] X.env)=[(false,eval e X.env),(false,eval f X.env)]
def IsD(H:Hp)(a:Addr):Prop:=(∃kvs,Rd H a (.dK kvs))\/∃kvs,Rd H a (.dT kvs)
theorem isD_at{X:Cx}{pins:List (Addr×Obj)}{σ:St}{H:Hp}{s:Shared}{a:Addr}(I:Inv X pins σ H s)(d:IsD H a) :
  s.TypeIs (.ref a) "dict"/\(∀b,Value.ref a=.ref b->∃ob,s.heap.get? b=some ob/\ob.dict=none)/\(a == sysModules)=false:=by
 rcases d with ⟨kvs,e⟩|⟨kvs,e⟩
 ·obtain⟨_,hd,vs,_,dd⟩:=zu3 I.hok e
  refine⟨dd.typeIs,λb q=>?_,hd⟩
  cases q
  obtain⟨ob,_,_,h1,h2,_⟩:=dd
  exact⟨ob,h1,h2.2.1⟩
 ·obtain⟨_,hd,xs,_,dd⟩:=zu2 I.hok e
  refine⟨dd.typeIs,λb q=>?_,hd⟩
  cases q
  obtain⟨ob,_,_,h1,h2,_⟩:=dd
  exact⟨ob,h1,h2.2.1⟩
section
variable{X:Cx}{pins:List (Addr×Obj)}{σ:St}{H:Hp}{s:Shared}{a:Addr}{y d:V}{u r:Value}{o:Option V}{A:Around}{E:Value->Shared->Prop}
theorem d_get2{Q:Value->Shared->Prop}(hu:A.units+1<cLine)(I:Inv X pins σ H s)(g:DGet H a y o)(ry:RelV y u)(rd:RelV d r)(h:∀w' s',Inv X pins σ H s'->RelV (o.getD d) w'->Q w' s') :
  wpAny (model X.prog X.w) A (call (.builtin "dict.get") [.ref a,u,r]) Q E s:=by
 rcases g with ⟨kvs,k,e,ey,l⟩|⟨kvs,k,b,e,ey,eb,l⟩
 ·subst ey
  obtain⟨z,hd,vs,rel,dd⟩:=zu3 I.hok e
  refine call_meetsIn qh4 dd.typeIs qi4 (qiu _ _ _) (meets_dict_get_default (zbg X.prog X.w) a (zuu ry) hd r) ⟨_,dd.mapOf,h _ _ (I.tok _) ?_⟩
  rw[l]
  exact (rel.val k).getD rd
 ·subst ey
  cases (show u=Value.ref b from ry)
  obtain⟨z,hd,xs,rel,dd⟩:=zu2 I.hok e
  refine call_meetsIn qh4 dd.typeIs qi4 (qiu _ _ _) (meetsH_dict_get_default (tupleKind (zbg X.prog X.w)) a b hd r) ⟨tupleKind_room_in1 hu,k,xs,zpg I.hok eb,dd,h _ _ (I.tok _) ?_⟩
  rw[l]
  exact (rel.val k).getD rd
end
def tDGet2(td ty tx:TE):TE:=λσ H Q=>td σ H λx H1=>∃a,x=.ref a/\IsD H1 a/\ty σ H1 λy H2=>tx σ H2 λz H3=>∃o,DGet H3 a y o/\Q (o.getD z) H3
section
variable{X:Cx}{o e f:Expr}{apos cpos:Pos}{td ty tx:TE}
theorem zz3(hu:X.A.units+1<cLine)(ho:PE X o td)(he:PE X e ty)(hf:PE X f tx)(m:M2 X o "get" apos e f cpos):PE X (.Call (.Attribute o "get" apos) [e,f] [] cpos) (tDGet2 td ty tx):=by
 intro pins s σ H Q I h
 refine wpAny_Call_method m.base m.few m.line PySem.F.plainAttrs_dict qh4 PySem.F.type_dict_get (thn (ho pins s σ H _ I h) λu s1 ⟨x,H1,I1,rx,a,ex,d,q1⟩=>?_)
 subst ex
 obtain rfl:u=Value.ref a:=rx
 obtain⟨t1,t2,_⟩:=isD_at I1 d
 refine⟨t1,t2,?_⟩
 rw[m.trees]
 refine Calls.callWith_builtin rfl (Calls.evalArgs_plain (Calls.spliced_cons (thn (he pins s1 σ H1 _ I1 q1) λiv s2 ⟨y,H2,I2,ry,q2⟩=>
  Calls.spliced_cons (thn (hf pins s2 σ H2 _ I2 q2) λfv s3 ⟨z,H3,I3,rz,ov,g,q3⟩=>Calls.spliced_nil ?_))))
 exact d_get2 hu I3 g ry rz λw' s4 I4 rw'=>⟨_,H3,I4,rw',q3⟩
end
theorem zsc:entryFor table "dict.update.loop"=some Builtin.«dict.update.loop»:=entryFor_of_tree (by kernel_rfl)
theorem zg8:plainId "dict.update.loop"=true:=by decide +kernel
section
variable{X:Cx}{pins:List (Addr×Obj)}{σ:St}{H:Hp}{s:Shared}{h':Heap}
theorem Inv.turnedL{t':Nat}{ch:List Addr}(I:Inv X pins σ H s)(k:∀b o,b ∉ ch->s.heap.get? b=some o->h'.get? b=some o)(hf:∀b∈ch,zn9 X pins H b):Inv X pins σ H { s with heap:=h',toks:=t' }:=by
 have nit:∀b u,H b=some u->b ∉ ch:=λb u e z=>by
  have q:=(hf b z).1
  rw[q]at e;cases e
 refine I.step (g':=s.gens) (d':=s.drawn) (ch:=ch) (λb hb=>⟨(hf b hb).2.2.2.1,(hf b hb).2.1,(hf b hb).2.2.2.2.1,(hf b hb).2.2.2.2.2⟩) (λb o _ _ hc e _=>k b o hc e) (λb o _ _ hc e _=>⟨o.slots,k b o hc e⟩)
  (λ_ _ _ _ n=>n) (λb o hc e=>⟨o,k b o hc e⟩) (λ_ _ e=>e) (λ_ _ _ e=>e) (λb ps e=>⟨#[],by rw[e];simp⟩) (λm hm=>?_) (λb u e=>?_) I.bare
 ·obtain⟨o,es,ep,ho,r⟩:=hm
  exact⟨o,es,ep,k _ o (λz=>(hf _ z).2.1 rfl) ho,r⟩
 ·refine (I.hok b u e).stay (λc v hc q=>k c v ?_ q) (λ_ q=>q) λ_ _ q=>q
  rcases hc with z|z
  ·rw[z];exact nit b u e
  ·exact nit c _ z
theorem Inv.turnedNew{t':Nat}{ch:List Addr}{T:Addr}{ob:HO}(I:Inv X pins σ H s)(k:∀b o,b ∉ ch->s.heap.get? b=some o->h'.get? b=some o)(hf:∀b∈ch,zn9 X pins H b)(hT:s.heap.objs.size<=T)(new:ObjOk X.prog X.w (upd H T ob) h' T ob):Inv X pins σ (upd H T ob) { s with heap:=h',toks:=t' }:=by
 have hn:H T=none:=I.hok.fresh hT
 have nit:∀b u,H b=some u->b ∉ ch:=λb u e z=>by
  have q:=(hf b z).1
  rw[q]at e;cases e
 refine I.step (g':=s.gens) (d':=s.drawn) (ch:=ch) (λb hb=>⟨(hf b hb).2.2.2.1,(hf b hb).2.1,(hf b hb).2.2.2.2.1,(hf b hb).2.2.2.2.2⟩) (λb o _ _ hc e _=>k b o hc e) (λb o _ _ hc e _=>⟨o.slots,k b o hc e⟩)
  (λb o _ e n=>?_) (λb o hc e=>⟨o,k b o hc e⟩) (λb xs e=>?_) (λb o u e=>?_) (λb ps e=>⟨#[],?_⟩) (λm hm=>?_) (λb u e=>?_) I.bare
 ·rw[zah (qe9 (qep (Heap.lt_size e) hT))];exact n
 ·rw[zah (zai e hn)];exact e
 ·rw[zah (zai e hn)];exact e
 ·rw[zah (zai e hn),e];simp
 ·obtain⟨o,es,ep,ho,r⟩:=hm
  exact⟨o,es,ep,k _ o (λz=>(hf _ z).2.1 rfl) ho,r⟩
 ·by_cases hb:b=T
  ·subst hb
   rw[zad]at e
   cases e
   exact new
  ·rw[zah hb]at e
   refine (I.hok b u e).stay (λc v hc q=>k c v ?_ q) (λc q=>by rw[zah (zai q hn)];exact q) λc xs q=>by rw[zah (zai q hn)];exact q
   rcases hc with z|z
   ·rw[z];exact nit b u e
   ·exact nit c _ z
end
section
variable{X:Cx}
theorem qbl{tg:Expr}{pins:List (Addr×Obj)}{σ:St}{H:Hp}{s:Shared}{R:It->Hp->Prop}{J:It}{tn:Nat->Heap->Prop}{tk:Nat}(I:Inv X pins σ H s)(o:Obj)(T:qd6 X.prog X.w X.K tg J [s.heap.objs.size] s.heap.objs.size tn)(st:tn 0 (s.heap.push o))(q:R J H):PIE X pins σ tg R (.ref s.heap.objs.size) { s with heap:=s.heap.push o,toks:=tk }:=by
 refine⟨s.heap.objs.size,[s.heap.objs.size],tn,J,H,rfl,I.kept λb ob e=>Heap.get?_push_of_some _ e,T,st,λb hb=>?_,q⟩
 have e:b=s.heap.objs.size:=by simpa using hb
 subst e
 exact I.fpOk (qek _) (I.hok.fresh (qek _))
end
def Its(x:Str):It:=⟨λi _=>i<x.cps.size,λi H v H'=>H'=H/\∃c,x.cps[i]?=some c/\v=.str ⟨#[c]⟩,λi _=>x.cps.size<=i⟩
theorem zsd{P:Program}{w:World}{K:qed}{tg:Expr}(it:Addr)(x:Str)(t:Tok)(ty:String)(hty:ty="str_ascii_iterator"\/ty="str_iterator") :
  qd6 P w K tg (Its x) [it] it (λi h=>h.IsStrIter it ty x t i) where
 mem:=by simp
 obj:=λi h st b hb=>by
  have e:b=it:=by simpa using hb
  subst e
  obtain⟨o,e,c,d⟩:=st
  exact⟨o,e,λv z=>by rw[d]at z;cases z⟩
 keep:=λi h h' st k=>let ⟨o,ho,r⟩:=st;⟨o,k it (by simp) o ho,r⟩
 item:=by
  intro X hP hw hK hc i pins s σ H E I hf st hg
  subst hP hw hK
  obtain⟨f0,f1,f2,f3,f4,f5⟩:=hf it (by simp)
  have W:Walks X.prog X.w X.A it [it] [it] x.cps.size (SignAt x) (λi h=>h.IsStrIter it ty x t i):=by
   rcases hty with e|e
   ·rw[e];exact Walks.strAscii (I.ok.hd hc) it x t
   ·rw[e];exact Walks.strWide (I.ok.hd hc) it x t
  have hno:["enumerate","zip","dict_itemiterator","dict_reverseitemiterator","odict_iterator","itertools.zip_longest","itertools.pairwise"].contains ty=false:=by
   rcases hty with e|e
   ·rw[e];decide
   ·rw[e];decide
  refine W.item i s _ _ hg st λv h' tk hv st' kk=>?_
  obtain⟨c,u,hcx,rfl⟩:=hv
  have I1:Inv X pins σ H { s with heap:=h',toks:=tk }:=I.turned (λb o hb e=>kk b o (by simpa using hb) e) f0 f1 f3 f4 f5
  obtain⟨oi,e,cc,dd⟩:=id st'
  exact⟨_,rfl,qdx (s:={ s with heap:=h',toks:=tk }) e cc dd hno ⟨.str ⟨#[c]⟩,H,I1,⟨u,rfl⟩,⟨rfl,c,hcx,rfl⟩,st',λb hb=>(hf b hb).1⟩⟩
 done:=by
  intro X hP hw hK hc i pins s σ H E I hf st hg
  subst hP hw hK
  obtain⟨f0,f1,f2,f3,f4,f5⟩:=hf it (by simp)
  have hx:x.cps[i]?=none:=Array.getElem?_eq_none hg
  rcases hty with e|e
  ·rw[e]at st
   exact wpAny_pyNext_ascii_end (I.ok.hd hc) st hx λh' eb=>⟨rfl,I.turned (t':=s.toks) (λb o hb e=>eb b o hb e) f0 f1 f3 f4 f5⟩
  ·rw[e]at st
   exact wpAny_pyNext_wide_end (I.ok.hd hc) st hx λh' eb=>⟨rfl,I.turned (t':=s.toks) (λb o hb e=>eb b o hb e) f0 f1 f3 f4 f5⟩
 self:=λA i s Q E st h=>by
  rcases hty with e|e
  ·rw[e]at st;exact wpAny_pyIter_striter_ascii st h
  ·rw[e]at st;exact wpAny_pyIter_striter_wide st h
def iStr(te:TE):TI:=λσ H R=>te σ H λv H1=>∃x,v=.str x/\R (Its x) H1
theorem pi_str{X:Cx}{tg e:Expr}{te:TE}(he:PE X e te):PI X tg e (iStr te):=by
 intro pins s σ H R I h
 refine thn (he pins s σ H _ I h) λv s1 ⟨y,H1,I1,r1,x,ex,q⟩=>?_
 subst ex
 obtain⟨t,rfl⟩:=r1
 cases ha:x.cps.all (·<128)
 ·exact wpAny_pyIter_wide ha (qbl (tk:=s1.toks) I1 _ (zsd _ x t "str_iterator" (.inr rfl)) ⟨_,Heap.get?_push_size _ rfl,rfl,rfl⟩ q)
 ·exact wpAny_pyIter_ascii ha (qbl (tk:=s1.toks) I1 _ (zsd _ x t "str_ascii_iterator" (.inl rfl)) ⟨_,Heap.get?_push_size _ rfl,rfl,rfl⟩ q)
def Ite(K:qed)(a:Addr):It:=
 ⟨λi H=>∃(xs:List V)(x:V),SqL K H a xs/\xs[i]?=some x,λi H v H'=>∃T x,v=.ref T/\H T=none/\H'=upd H T (.tup [.int (i:Nat),x])/\∀xs,SqL K H a xs->xs[i]?=some x,λi H=>∃xs:List V,SqL K H a xs/\xs.length<=i⟩
theorem zvv{P:Program}{w:World}{K:qed}{elts:List Expr}{kk:Nat}{tpos:Pos}(a e it:Addr) :
  qd6 P w K (.Tuple elts kk tpos) (Ite K a) [e,it] e (λi h=>(∃old,IsEnum h e it ((i:Nat):Int) old)/\h.IsListIter it a i/\e≠it) where
 mem:=by simp
 obj:=λi h st b hb=>by
  obtain⟨⟨old,he⟩,⟨o,ho,hc,hd⟩,_⟩:=st
  have e':b=e\/b=it:=by simpa using hb
  rcases e' with z|z
  ·rw[z];exact⟨_,he,λv q=>nomatch q⟩
  ·rw[z];exact⟨o,ho,λv q=>by rw[hd]at q;cases q⟩
 keep:=λi h h' st k=>let ⟨⟨old,he⟩,hi,hne⟩:=st;⟨⟨old,k e (by simp) _ he⟩,hi.at λo q=>k it (by simp) o q,hne⟩
 item:=by
  intro X hP hw hK hc i pins s σ H E I hf st hg
  subst hP hw hK
  obtain⟨⟨old,he⟩,hit,hne⟩:=st
  obtain⟨xs,x,hq,hx⟩:=hg
  obtain⟨its,rv,p,hz⟩:=I.list hq
  obtain⟨u,hu,ru⟩:=rv.get hx
  have hel:e<s.heap.objs.size:=Heap.lt_size he
  have hil:it<s.heap.objs.size:=by obtain⟨_,q,_⟩:=hit;exact Heap.lt_size q
  refine wpAny_pyNext_enum_item he hit p.isList (x:=u) (by simpa using hu) hne λh' ho hit' hT hsz hk=>?_
  refine⟨_,rfl,wpAny_letOwnedTupleGo_enum (s:={ s with heap:=h',toks:=s.toks+1 }) ho λh'' he' sb=>?_⟩
  have hT2:h''.get? s.heap.objs.size=some { cls:=.type "tuple",data:=.seq #[.int i s.toks,u] }:=(sb.2 _ (qgp hel)).trans hT
  have new:ObjOk X.prog X.w (upd H s.heap.objs.size (.tup [.int (i:Nat),x])) h'' s.heap.objs.size (.tup [.int (i:Nat),x]):=
   ⟨by show 2<=sizeLine;decide,[.int i s.toks,u],.cons ⟨_,rfl⟩ (.cons ru .nil),⟨_,hT2,rfl,_,rfl⟩⟩
  have I1:Inv X pins σ (upd H s.heap.objs.size (.tup [.int (i:Nat),x])) { s with heap:=h'',toks:=s.toks+1 }:=
   I.turnedNew (ch:=[e,it]) (λb ob hb q=>(sb.2 b (λz=>hb (by simp[z]))).trans (hk b ob (λz=>hb (by simp[z])) (λz=>hb (by simp[z])) q)) hf (qek _) new
  refine⟨.ref s.heap.objs.size,_,I1,rfl,⟨_,x,rfl,I.hok.fresh (qek _),rfl,λys hy=>by rw[I.list_inj hy hq];exact hx⟩,⟨⟨u,?_⟩,hit'.at λo q=>(sb.2 it (Ne.symm hne)).trans q,hne⟩,λb hb=>?_⟩
  ·have e1:((i+1:Nat):Int)=(i:Int)+1:=by lia
   rw[e1];exact he'
  ·have hb':b<s.heap.objs.size:=by
    have e':b=e\/b=it:=by simpa using hb
    rcases e' with z|z
    ·rw[z];exact hel
    ·rw[z];exact hil
   rw[zah (qe9 hb')]
   exact (hf b hb).1
 done:=by
  intro X hP hw hK hc i pins s σ H E I hf st hg
  subst hP hw hK
  obtain⟨⟨old,he⟩,hit,hne⟩:=st
  obtain⟨xs,hq,hx⟩:=hg
  obtain⟨its,rv,p,hz⟩:=I.list hq
  obtain⟨f0,f1,f2,f3,f4,f5⟩:=hf it (by simp)
  have hl:=rv.length
  exact wpAny_pyNext_enum_end (I.ok.hd hc) he hit p.isList (by simp;lia) λh' eb=>⟨rfl,I.turned (t':=s.toks) (λb o hb q=>eb b o hb q) f0 f1 f3 f4 f5⟩
 self:=λA i s Q E st h=>let ⟨⟨_,he⟩,_⟩:=st;wpAny_pyIter_enum he h
def iEnum(K:qed)(ta:TA):TI:=λσ H R=>ta σ H λvs H1=>∃a xs,vs=[.ref a]/\SqL K H1 a xs/\R (Ite K a) H1
theorem znh{X:Cx}{e:Expr}{ta:TA}{p pos tpos:Pos}{elts:List Expr}{kk:Nat}(hg:Gl X "enumerate")(hm:X.mg "enumerate"=none)(ha:PA X [e] ta)(hs:starEach [e] X.env=[(false,eval e X.env)]:=by rfl) :
  PI X (.Tuple elts kk tpos) (.Call (.Name "enumerate" p) [e] [] pos) (iEnum X.K ta):=by
 intro pins s σ H R I h
 refine Call_ (zho I hg hm boot_enumerate (PyProof.Rows.callWith_type1 (thn (ha pos pins s σ H _ I h) λus s1 ⟨vs,H1,I1,r1,q1⟩=>?_) hs rfl))
 obtain⟨a,xs,ex,hq,q⟩:=q1
 subst ex
 cases r1 with
 |cons r rr=>
  cases rr
  cases r
  obtain⟨its,rv,p',hz⟩:=I1.list hq
  refine call_enumerate_list p'.isList λh' he hit hsz hk=>wpAny_pyIter_enum he ?_
  have I2:Inv X pins σ H1 { s1 with heap:=h' }:=I1.kept (t':=s1.toks) hk
  refine⟨s1.heap.objs.size+1,[s1.heap.objs.size+1,s1.heap.objs.size],_,_,H1,rfl,I2,zvv a (s1.heap.objs.size+1) s1.heap.objs.size,⟨⟨.none,he⟩,hit,Nat.succ_ne_self _⟩,λb hb=>?_,q⟩
  have e':b=s1.heap.objs.size+1\/b=s1.heap.objs.size:=by simpa using hb
  have hle:s1.heap.objs.size<=b:=by
   rcases e' with z|z
   ·rw[z];exact qgk _ _
   ·rw[z];exact qek _
  exact I1.fpOk hle (I1.hok.fresh hle)
theorem zp1:bootBuiltins "zip"=some (.type "zip"):=by decide +kernel
def Itz(K:qed)(a b:Addr):It:=
 ⟨λi H=>∃(xs ys:List V)(x y:V),SqL K H a xs/\SqL K H b ys/\xs[i]?=some x/\ys[i]?=some y,
  λi H v H'=>∃T x y,v=.ref T/\H T=none/\H'=upd H T (.tup [x,y])/\(∀xs,SqL K H a xs->xs[i]?=some x)/\∀ys,SqL K H b ys->ys[i]?=some y,
  λi H=>∃xs ys:List V,SqL K H a xs/\SqL K H b ys/\(xs.length<=i\/ys.length<=i)⟩
theorem zzd{P:Program}{w:World}{K:qed}{elts:List Expr}{kk:Nat}{tpos:Pos}{a b z TI TO i1 i2:Addr}(D:ZipApart z TI TO i1 i2 a b) :
  qd6 P w K (.Tuple elts kk tpos) (Itz K a b) [z,TI,TO,i1,i2] z (λi h=>IsZip h z TI TO .none/\IsPair h TI (.ref i1) (.ref i2)/\(∃x y,IsPair h TO x y)/\h.IsListIter i1 a i/\h.IsListIter i2 b i) where
 mem:=by simp
 obj:=λi h st c hc=>by
  obtain⟨hz,hTI,⟨x,y,hTO⟩,⟨o1,e1,_,d1⟩,⟨o2,e2,_,d2⟩⟩:=st
  have e':c=z\/c=TI\/c=TO\/c=i1\/c=i2:=by simpa using hc
  rcases e' with q|q|q|q|q
  ·rw[q];exact⟨_,hz,λv q=>nomatch q⟩
  ·rw[q];exact⟨_,hTI,λv q=>nomatch q⟩
  ·rw[q];exact⟨_,hTO,λv q=>nomatch q⟩
  ·rw[q];exact⟨o1,e1,λv q=>by rw[d1]at q;cases q⟩
  ·rw[q];exact⟨o2,e2,λv q=>by rw[d2]at q;cases q⟩
 keep:=λi h h' st k=>by
  obtain⟨hz,hTI,⟨x,y,hTO⟩,h1,h2⟩:=st
  exact⟨k z (by simp) _ hz,k TI (by simp) _ hTI,⟨x,y,k TO (by simp) _ hTO⟩,h1.at λo q=>k i1 (by simp) o q,h2.at λo q=>k i2 (by simp) o q⟩
 item:=by
  intro X hP hw hK hc i pins s σ H E I hf st hg
  subst hP hw hK
  obtain⟨hz,hTI,⟨x0,y0,hTO⟩,h1,h2⟩:=st
  obtain⟨xs,ys,x,y,hqx,hqy,hx,hy⟩:=hg
  obtain⟨its,rv,p,_⟩:=I.list hqx
  obtain⟨its2,rv2,p2,_⟩:=I.list hqy
  obtain⟨u,hu,ru⟩:=rv.get hx
  obtain⟨u2,hu2,ru2⟩:=rv2.get hy
  have hzl:z<s.heap.objs.size:=Heap.lt_size hz
  refine wpAny_pyNext_zip_item D hz hTI hTO h1 h2 p.isList p2.isList (x:=u) (y:=u2) (by simpa using hu) (by simpa using hu2) λh' z' TO' h1' h2' hT hsz hk=>?_
  refine⟨_,rfl,wpAny_letOwnedTupleGo_zip (s:={ s with heap:=h' }) z' λh'' z'' sb=>?_⟩
  have hT2:h''.get? s.heap.objs.size=some { cls:=.type "tuple",data:=.seq #[u,u2] }:=(sb.2 _ (qgp hzl)).trans hT
  have new:ObjOk X.prog X.w (upd H s.heap.objs.size (.tup [x,y])) h'' s.heap.objs.size (.tup [x,y]):=
   ⟨by show 2<=sizeLine;decide,[u,u2],.cons ru (.cons ru2 .nil),⟨_,hT2,rfl,_,rfl⟩⟩
  have I1:Inv X pins σ (upd H s.heap.objs.size (.tup [x,y])) { s with heap:=h'' }:=
   I.turnedNew (t':=s.toks) (ch:=[z,TI,TO,i1,i2]) (λc o hb q=>(sb.2 c (λq'=>hb (by simp[q']))).trans (hk c o (λq'=>hb (by simp[q'])) (λq'=>hb (by simp[q'])) (λq'=>hb (by simp[q'])) (λq'=>hb (by simp[q'])) q)) hf (qek _) new
  refine⟨.ref s.heap.objs.size,_,I1,rfl,⟨_,x,y,rfl,I.hok.fresh (qek _),rfl,λl hl=>by rw[I.list_inj hl hqx];exact hx,λl hl=>by rw[I.list_inj hl hqy];exact hy⟩,⟨z'',?_,⟨u,u2,?_⟩,?_,?_⟩,λc hcm=>?_⟩
  ·exact (sb.2 _ D.TIz).trans (hk _ _ D.TIz D.TITO D.TIi1 D.TIi2 hTI)
  ·exact (sb.2 _ D.TOz).trans TO'
  ·exact h1'.at λo q=>(sb.2 _ D.i1z).trans q
  ·exact h2'.at λo q=>(sb.2 _ D.i2z).trans q
  ·have hlt:c<s.heap.objs.size:=by
    have e':c=z\/c=TI\/c=TO\/c=i1\/c=i2:=by simpa using hcm
    rcases e' with q|q|q|q|q
    ·rw[q];exact hzl
    ·rw[q];exact Heap.lt_size hTI
    ·rw[q];exact Heap.lt_size hTO
    ·rw[q];obtain⟨_,e1,_⟩:=h1;exact Heap.lt_size e1
    ·rw[q];obtain⟨_,e2,_⟩:=h2;exact Heap.lt_size e2
   rw[zah (qe9 hlt)]
   exact (hf c hcm).1
 done:=by
  intro X hP hw hK hc i pins s σ H E I hf st hg
  subst hP hw hK
  obtain⟨hz,hTI,⟨x0,y0,hTO⟩,h1,h2⟩:=st
  obtain⟨xs,ys,hqx,hqy,hend⟩:=hg
  obtain⟨its,rv,p,_⟩:=I.list hqx
  obtain⟨its2,rv2,p2,_⟩:=I.list hqy
  have l1:=rv.length
  have l2:=rv2.length
  have he:its.toArray[i]?=none\/its2.toArray[i]?=none:=by
   rcases hend with q|q
   ·exact .inl (by simp;lia)
   ·exact .inr (by simp;lia)
  exact wpAny_pyNext_zip_end (I.ok.hd hc) D hz hTI hTO h1 h2 p.isList p2.isList he λh' hk=>⟨rfl,I.turnedL (t':=s.toks) (ch:=[z,TI,TO,i1,i2]) (λc o hb q=>
   hk c o (λq'=>hb (by simp[q'])) (λq'=>hb (by simp[q'])) (λq'=>hb (by simp[q'])) (λq'=>hb (by simp[q'])) q) hf⟩
 self:=λA i s Q E st h=>wpAny_pyIter_zip st.1 h
def iZip(K:qed)(ta:TA):TI:=λσ H R=>ta σ H λvs H1=>∃a b xs ys,vs=[.ref a,.ref b]/\SqL K H1 a xs/\SqL K H1 b ys/\R (Itz K a b) H1
theorem zsr{X:Cx}{e e2:Expr}{ta:TA}{p pos tpos:Pos}{elts:List Expr}{kk:Nat}(hg:Gl X "zip")(hm:X.mg "zip"=none)(ha:PA X [e,e2] ta)(hs:starEach [e,e2] X.env=(false,eval e X.env)::starEach [e2] X.env:=by rfl)(hpl:(backTo pos (starEach [e2] X.env)).any (·.1)=false:=by rfl) :
  PI X (.Tuple elts kk tpos) (.Call (.Name "zip" p) [e,e2] [] pos) (iZip X.K ta):=by
 intro pins s σ H R I h
 refine Call_ (zho I hg hm zp1 (PyProof.Rows.callWith_type1 (thn (ha pos pins s σ H _ I h) λus s1 ⟨vs,H1,I1,r1,q1⟩=>?_) hs hpl))
 obtain⟨a,b,xs,ys,ex,hqx,hqy,q⟩:=q1
 subst ex
 cases r1 with
 |cons r rr=>
  cases rr with
  |cons r' rr=>
   cases rr
   cases r
   cases r'
   obtain⟨its,rv,p1,_⟩:=I1.list hqx
   obtain⟨its2,rv2,p2,_⟩:=I1.list hqy
   have la:a<s1.heap.objs.size:=p1.lt
   have lb:b<s1.heap.objs.size:=p2.lt
   refine call_zip_2 p1.isList p2.isList λh' hz hTI hTO h1 h2 hsz hk=>wpAny_pyIter_zip hz ?_
   have I2:Inv X pins σ H1 { s1 with heap:=h' }:=I1.kept (t':=s1.toks) hk
   refine⟨s1.heap.objs.size+4,[s1.heap.objs.size+4,s1.heap.objs.size+2,s1.heap.objs.size+3,s1.heap.objs.size,s1.heap.objs.size+1],_,_,H1,rfl,I2,zzd (PySem.W.ktu_apart s1.heap.objs.size a b la lb),⟨hz,hTI,⟨_,_,hTO⟩,h1,h2⟩,λc hcm=>?_,q⟩
   have e':c=s1.heap.objs.size+4\/c=s1.heap.objs.size+2\/c=s1.heap.objs.size+3\/c=s1.heap.objs.size\/c=s1.heap.objs.size+1:=by simpa using hcm
   have hle:s1.heap.objs.size<=c:=by
    rcases e' with z|z|z|z|z
    ·rw[z];exact qgk _ _
    ·rw[z];exact qgk _ _
    ·rw[z];exact qgk _ _
    ·rw[z];exact qek _
    ·rw[z];exact qgk _ _
   exact I1.fpOk hle (I1.hok.fresh hle)
end L2
section
namespace TL
open PySem PySem.Builtin PySem.Builtin.Str PySem.StrLaws
abbrev tl(x:Str):List Nat:=x.cps.toList
theorem zoh(x y:Str):tl (x++y)=tl x++tl y:=by
 show (x++y).cps.toList=_
 rw[Str.cps_append,qif]
def joinL(S:List Nat):List (List Nat)->List Nat
 |[]=>[]
 |[p]=>p
 |p::q::r=>p++(S++joinL S (q::r))
theorem tl_join(y:Str):∀parts:List Str,tl (Str.join y parts)=joinL (tl y) (parts.map tl)
 |[]=>rfl
 |[_]=>rfl
 |x::z::r=>by
  show tl (x++y++Str.join y (z::r))=tl x++(tl y++joinL (tl y) ((z::r).map tl))
  rw[zoh,zoh,tl_join y (z::r),qfc]
theorem join_eq(y:Str)(parts:List Str):Txt.join y parts=Str.join y parts:=glued_eq_join y parts
end TL
end
namespace L2
open PySem PySem.Spec PyProof.Rows
theorem ze3:∀{ys:List Str}{us:List Value},Vals (ys.map V.str) us->StrsAre us ys
 |[],_,.nil=>.nil
 |y::ys,_,.cons r t=>by
  obtain⟨k,rfl⟩:=r
  exact .cons y k (ze3 t)
section
variable{X:Cx}
theorem qdr:MtR X "str.join" (λx xs H Q=>∃a p,∃ys:List Str,x=.str a/\xs=[.ref p]/\(SqL X.K H p (ys.map V.str)\/SqT X.K H p (ys.map V.str)) ∧
  (ys.map (·.length)).sum+ys.length*a.length<=16777216/\Q (.str (Txt.join a ys)) H):=by
 intro pins s σ H x xs v us Q I rx rs h
 obtain⟨a,p,ys,rfl,rfl,hp,hz,h⟩:=h
 obtain⟨t,rfl⟩:=rx
 cases rs with
 |cons r1 rs=>
  cases rs
  cases r1
  rcases hp with hp|hp
  ·obtain⟨its,r,⟨o,n,ho,hc,_,hd⟩,_⟩:=I.list hp
   exact PyProof.Rows.join_list (items:=its.toArray) ⟨o,ho,hc,n,hd⟩ (by rw[qjk];exact ze3 r) hz λt' k=>⟨.str _,H,I.tok k,⟨t',rfl⟩,h⟩
  ·obtain⟨its,r,ht,_⟩:=I.tuple hp
   exact PyProof.Rows.join_tuple (items:=its.toArray) ht (by rw[qjk];exact ze3 r) hz λt' k=>⟨.str _,H,I.tok k,⟨t',rfl⟩,h⟩
theorem zpy:zma X (.type "int") (λxs H Q=>∃a n,xs=[.str a]/\PySem.intText? a=some n/\a.length<=640/\Q (.int n) H):=by
 intro pins s σ H xs us Q I rs h
 obtain⟨a,n,rfl,hn,hl,h⟩:=h
 cases rs with
 |cons r1 rs=>
  cases rs
  obtain⟨t,rfl⟩:=r1
  exact PySem.W.KIN.call_text hn hl ⟨.int n,H,I.tok _,⟨_,rfl⟩,h⟩
end
section
variable{X:Cx}{o e:Expr}{to te:TE}
def tM1(r:V->List V->Hp->VK->Prop)(to te:TE):TE:=λσ H Q=>to σ H λx H1=>(∃a,x=.str a)/\te σ H1 λy H2=>r x [y] H2 Q
theorem pe_m1{id:String}{name:Str}{apos pos:Pos}{r:V->List V->Hp->VK->Prop}(slot:Slot "str" name id)(ty:typeOf (.builtin id)=pure (.type "method_descriptor"))(rule:MtR X id r)(ho:PE X o to)(he:PE X e te)(hs:starEach [e] X.env=[(false,eval e X.env)]:=by rfl)(hbase:attributeBase o name X.env (eval o X.env)=eval o X.env:=by rfl)(hline:(apos.endLine == pos.line)=true:=by rfl) :
  PE X (.Call (.Attribute o name apos) [e] [] pos) (tM1 r to te):=by
 intro pins s σ H Q I h
 refine PySem.Call_method1 hbase hs hline (thn (ho pins s σ H _ I h) λv s1 ⟨x,H1,I1,r1,q1⟩=>?_)
 obtain⟨⟨a,rfl⟩,q1⟩:=q1
 obtain⟨t,rfl⟩:=_root_.id r1
 refine⟨"str",_,F.plainAttrs_str,slot,ty,typeIs_str _ _ _,(λ_ e=>nomatch e),Calls.callWith_builtin rfl (Calls.evalArgs_plain (Calls.spliced_cons ?_))⟩
 exact thn (he pins s1 σ H1 _ I1 q1) λu s2 ⟨y,H2,I2,r2,q2⟩=>Calls.spliced_nil (rule pins s2 σ H2 _ [y] _ [u] Q I2 r1 (.cons r2 .nil) q2)
theorem qc6{apos pos:Pos}(ho:PE X o to)(he:PE X e te)(hs:starEach [e] X.env=[(false,eval e X.env)]:=by rfl)(hbase:attributeBase o "join" X.env (eval o X.env)=eval o X.env:=by rfl)(hline:(apos.endLine == pos.line)=true:=by rfl) :
  PE X (.Call (.Attribute o "join" apos) [e] [] pos) (tM1 (λx xs H Q=>∃a p,∃ys:List Str,x=.str a/\xs=[.ref p]/\(SqL X.K H p (ys.map V.str)\/SqT X.K H p (ys.map V.str)) ∧
   (ys.map (·.length)).sum+ys.length*a.length<=16777216/\Q (.str (Txt.join a ys)) H) to te):=
 pe_m1 F.slot_str_join F.type_str_join qdr ho he hs hbase hline
end
section
variable{X:Cx}
theorem zfz:OpR X (compareOp .In) (λx y H Q=>∃(c:Nat)(z:Str),x=.str ⟨#[c]⟩/\y=.str z/\Q (.bl (decide (c∈z.cps.toList))) H):=by
 intro pins s σ H x y v u Q I rx ry h
 obtain⟨c,z,rfl,rfl,q⟩:=h
 obtain⟨t,rfl⟩:=rx
 obtain⟨t',rfl⟩:=ry
 exact PyProof.Rows.in_str (zbe I q (PySem.StrLaws.found_one z c).symm)
end
theorem IsPart.raw{v:Value}{o:Option Int}(p:IsPart v o):∃l:Option (Int×Tok),v=partValue l/\l.map (·.1)=o:=by
 cases p with
 |none=>exact⟨none,rfl,rfl⟩
 |int i t=>exact⟨some (i,t),rfl,rfl⟩
def zyr(n d:Nat):Option Int->Int
 |none=>(d:Int)
 |some i=>max 0 (min (if i<0 then i+(n:Int) else i) (n:Int))
theorem zto(n d:Nat)(o:Option Int):zyr n d o=((HT.sIx n d o:Nat):Int):=by
 cases o with
 |none=>rfl
 |some v=>
  show max (0:Int) (min (if v<0 then v+(n:Int) else v) (n:Int))=(((if v<0 then (v+(n:Int)).toNat else min v.toNat n):Nat):Int)
  by_cases hv:v<0
  ·simp only[if_pos hv]
   lia
  ·simp only[if_neg hv]
   lia
theorem zv7(a b:Option Int)(n:Nat):Builtin.Str.strSliceIndices a b 1 n=sliceRange (zyr n 0 a) (zyr n n b) 1:=by
 have h1:((1:Int) > 0)=True:=by simp
 cases a <;> cases b <;> first
  |rfl
  |(simp only[Builtin.Str.strSliceIndices,zyr,h1,if_true];rfl)
  |simp[Builtin.Str.strSliceIndices,zyr]
theorem sidx(a b:Option Int)(n:Nat):Builtin.Str.strSliceIndices a b 1 n=(qfk (HT.sIx n n b - HT.sIx n 0 a)).map (λk=>HT.sIx n 0 a+k):=by
 rw[zv7,zto,zto]
 generalize HT.sIx n 0 a=p
 generalize HT.sIx n n b=q
 simp only[sliceRange,show ((1:Int) > 0)=True from by simp,if_true]
 by_cases hlt:(p:Int)<q
 ·have e3:(((q:Int) - p+1 - 1) / 1).toNat=q - p:=by first|lia|(simp;done)|(simp;lia)
  simp only[hlt,if_true,e3]
  refine qf2 λk _=>?_
  lia
 ·have:q - p=0:=by lia
  simp[hlt,this]
def cutS(z:Str)(lo hi:Option Int):Str:=
 ⟨((z.cps.toList.drop (HT.sIx z.length 0 lo)).take (HT.sIx z.length z.length hi - HT.sIx z.length 0 lo)).toArray⟩
theorem zhb(z:Str)(lo hi:Option Int):PySem.StrLaws.sliceText z lo hi=cutS z lo hi:=by
 have h1:HT.sIx z.length 0 lo<=z.length:=HT.sIx_le _ _ (qf4 _) _
 have h2:HT.sIx z.length z.length hi<=z.length:=HT.sIx_le _ _ (qek _) _
 have hp:HT.sIx z.length 0 lo<=max (HT.sIx z.length 0 lo) (HT.sIx z.length z.length hi):=Nat.le_max_left _ _
 have hq:max (HT.sIx z.length 0 lo) (HT.sIx z.length z.length hi)<=z.length:=Nat.max_le.mpr ⟨h1,h2⟩
 have hd:max (HT.sIx z.length 0 lo) (HT.sIx z.length z.length hi) - HT.sIx z.length 0 lo=HT.sIx z.length z.length hi - HT.sIx z.length 0 lo:=by lia
 have e:Builtin.Str.strSliceIndices lo hi 1 z.length =
   Builtin.Str.strSliceIndices (some ((HT.sIx z.length 0 lo:Nat):Int)) (some ((max (HT.sIx z.length 0 lo) (HT.sIx z.length z.length hi):Nat):Int)) 1 z.length:=by
  rw[PySem.StrLaws.strSliceIndices_plain hp hq,hd,sidx]
 have e2:PySem.StrLaws.sliceText z lo hi =
   PySem.StrLaws.sliceText z (some ((HT.sIx z.length 0 lo:Nat):Int)) (some ((max (HT.sIx z.length 0 lo) (HT.sIx z.length z.length hi):Nat):Int)):=by
  unfold PySem.StrLaws.sliceText
  rw[e]
 rw[e2,PySem.StrLaws.sliceText_nat z hp hq,hd]
 rfl
theorem zrp(z:Str)(lo hi:Option Int):(cutS z lo hi).length<=z.length:=by
 show (((z.cps.toList.drop (HT.sIx z.length 0 lo)).take (HT.sIx z.length z.length hi - HT.sIx z.length 0 lo)).toArray).size<=z.cps.size
 rw[qet,qe2,qfl,qgf]
 lia
def rSlS:V->Option Int->Option Int->Hp->VK->Prop:=λx lo hi H Q=>∃z,x=.str z/\z.length<=sizeLine/\Q (.str (cutS z lo hi)) H
theorem zv4{X:Cx}:SlR X rSlS:=by
 intro pins s σ H x v vl vu lo hi sl Q I rx hs pl pu h
 obtain⟨z,rfl,hz,q⟩:=h
 obtain⟨t,rfl⟩:=rx
 obtain⟨os,hos,hcs,hds⟩:=hs
 obtain⟨l,rfl,rfl⟩:=IsPart.raw pl
 obtain⟨u,rfl,rfl⟩:=IsPart.raw pu
 refine⟨"str",_,F.slot_str_getitem.lookup,typeIs_str _ _ _,?_⟩
 refine wpAny_getItem_str_slice (l:=l) (u:=u) (st:=none) ⟨os,hos,hcs,hds⟩ rfl ?_
 have hl:(PySem.StrLaws.sliceText z (l.map (·.1)) (u.map (·.1))).length<=sizeLine:=by
  rw[zhb]
  exact qfq (zrp z _ _) hz
 rw[<-zhb]at q
 unfold PySem.StrLaws.sliceText at q hl
 show Made.post (if ((1:Int) == 1 && (Builtin.Str.strSliceIndices (l.map (·.1)) (u.map (·.1)) 1 z.length).length == z.length)=true then Made.val (.str z t)
  else Made.str ⟨((Builtin.Str.strSliceIndices (l.map (·.1)) (u.map (·.1)) 1 z.length).filterMap (z.cps[·]?)).toArray⟩) (EP X pins σ Q) s
 by_cases c:((1:Int) == 1 && (Builtin.Str.strSliceIndices (l.map (·.1)) (u.map (·.1)) 1 z.length).length == z.length)=true
 ·rw[if_pos c]at q ⊢
  exact⟨.str z,H,I,⟨t,rfl⟩,q⟩
 ·rw[if_neg c]at q hl ⊢
  exact⟨hl,.str _,H,I.tok _,⟨_,rfl⟩,q⟩
end L2
namespace Att
open PySem PySem.W PySem.Calls PyProof.Rows
theorem ints_of_wellAll{P:Params}{h:Heap}:∀(ns:List Int)(vs:List Value),WellAll P h vs (ns.map WData.int)->IntsAre vs ns:=by
 intro ns
 induction ns with
 |nil=>
  intro vs w
  rw[qhq]at w
  cases w
  exact .nil
 |cons n ns ih=>
  intro vs w
  rw[qfh]at w
  cases w with
  |cons a b=>
   cases a
   exact .cons _ _ (ih _ b)
end Att
namespace L2
open PySem PySem.Spec PyProof.Rows
theorem zod:∀{vs:List Value}{ns:List Int},IntsAre vs ns->Vals (ns.map V.int) vs
 |_,_,.nil=>.nil
 |_,_,.cons n t h=>.cons ⟨t,rfl⟩ (zod h)
def zax(s:Stmt)(j:Nat):Stmt:=match s with
 |.ClassDef _ _ _ body _ _ _ _ _ _ _=>body.getD j (.Pass ⟨0,0,0,0⟩)
 |_=>.Pass ⟨0,0,0,0⟩
def zbu(s:Stmt):Arguments:=match s with
 |.FunctionDef _ a _ _ _ _ _ _ _ _=>a
 |_=>{ posonlyargs:=[],args:=[],vararg:=none,kwonlyargs:=[],kw_defaults:=[],kwarg:=none,defaults:=[] }
def zbh(s:Stmt):List Stmt:=match s with
 |.FunctionDef _ _ b _ _ _ _ _ _ _=>b
 |_=>[]
def zag(s:Stmt):Scope:=match s with
 |.FunctionDef _ _ _ _ _ _ sc _ _ _=>sc
 |_=>{ kind:=.function,names:=[],isGenerator:=false,isCoroutine:=false }
structure Fun(K:qed)(x qual:Str)(st:Stmt)(f:Addr)(fd:FuncData):Prop where
 ex:∃(oc:Value)(od:Option Addr)(kV doc pm:Value)(an:Option Addr)(cdv ct:Value)(osl:Array (Option Value)),
  fd=qfr x qual (zbu st) (zbh st) (zag st) .none kV doc pm an cdv ct/\K.lookup f=some ⟨oc,od,.func fd,osl⟩/\qgj K cdv qual=true
 kp:qfs K (.ref f)=true
section
variable{P:Program}{w:World}{K:qed}{mg:Str->Option Value}{base:Heap}
theorem Fun.binds{x qual:Str}{st:Stmt}{f:Addr}{fd:FuncData}{ps:List Str}(F:Fun K x qual st f fd)(h:∀(kV doc pm:Value) (an:Option Addr) (cdv ct:Value) (us:List Value),us.length=ps.length->bindArgs (qfr x qual (zbu st) (zbh st) (zag st) .none kV doc pm an cdv ct) ⟨us,[]⟩=pure (ps.zip us)):Binds K fd ps []:=by
 obtain⟨oc,od,kV,doc,pm,an,cdv,ct,osl,rfl,lk,hcd⟩:=F.ex
 exact .all (h kV doc pm an cdv ct)
theorem zgh{x qual:Str}{st:Stmt}{f:Addr}{oc:Value}{od an:Option Addr}{osl:Array (Option Value)}{kV doc pm cdv ct:Value}(l:K.lookup f=some ⟨oc,od,.func (qfr x qual (zbu st) (zbh st) (zag st) .none kV doc pm an cdv ct),osl⟩)(c:qgj K cdv qual=true)(k:qfs K (.ref f)=true):Fun K x qual st f (qfr x qual (zbu st) (zbh st) (zag st) .none kV doc pm an cdv ct):=⟨⟨oc,od,kV,doc,pm,an,cdv,ct,osl,rfl,l,c⟩,k⟩
end
theorem zpk{A:Around}{k:Nat}(hr:Room k A):A.units+1<cLine:=Nat.lt_of_le_of_lt (Nat.add_le_add_left (by decide:1<=64) _) hr.units
section
variable{X:Cx}
theorem pv(i:Nat){x:Str}{pos:Pos}(hN:X.N[i]?=some x:=by rfl)(hv:Vis X.env.scope x:=by first|exact Or.inl rfl|exact Or.inr (Or.inl rfl)|exact Or.inr (Or.inr rfl))(hd:(x == ("__debug__":Str))=false:=by decide)(hcd:(x == ("__classdict__":Str))=false:=by decide):PE X (.Name x pos) (tVar i):=qbm hN hv hd hcd
end
theorem zb3{c A B:Prop}[Decidable c](h1:c->A)(h2:¬c->B):if c then A else B:=by
 by_cases h:c
 ·rw[if_pos h]
  exact h1 h
 ·rw[if_neg h]
  exact h2 h
def Same(H H':Hp):Prop:=∀b o,H b=some o->H' b=some o
theorem Same.refl(H:Hp):Same H H:=λ_ _ h=>h
theorem Same.trans{H H1 H2:Hp}(a:Same H H1)(b:Same H1 H2):Same H H2:=λc o h=>b c o (a c o h)
theorem Same.free{H H':Hp}(e:Same H H'){l:Addr}(h:H' l=Option.none):H l=Option.none:=by
 cases q:H l with
 |none=>rfl
 |some o=>
  rw[e l o q]at h
  cases h
theorem Same.seq{K:qed}{H H':Hp}{a:Addr}{xs:List V}(e:Same H H')(h:SqL K H a xs):SqL K H' a xs:=by
 rcases h with (h|⟨o,h⟩)|h
 ·exact .inl (.inl (e _ _ h))
 ·exact .inl (.inr ⟨o,e _ _ h⟩)
 ·exact .inr h
theorem at_of{xs:List V}{z:Int}{j:Nat}{v:V}(e:z=(j:Int))(h:xs[j]?=some v):atI xs z=some v:=by
 rw[e]
 exact zfr h
open PySem PySem.Spec PyProof.Rows L3
def XAt(h:Heap)(e C dx:Addr)(T:Option Addr):Prop:=∃oe vs,h.get? e=some oe/\oe.cls=.ref C/\oe.dict=some dx/\oe.data=.fields vs/\Trc h e vs T
theorem Gone.un{fs:List Addr}{e:Addr}{oe:Obj}{T:Option Addr}{h h':Heap}{H:Hp}(he:∃o,h.get? e=some o)(g:Gone fs e oe T h h'):Un fs (e::T.toList) H H h h' where
 keep:=λb o q _ hf hx=>g.keep b o (λz=>hx (by simp[z])) (λz=>hx (by simp[<-z])) hf q
 slot:=λb o q _ _ hx=>g.slot b o (λz=>hx (by simp[z])) (λz=>hx (by simp[<-z])) q
 free:=λ_ _ _ n _=>n
 there:=λb o q hx=>let ⟨sl,z⟩:=g.slot b o (λz=>hx (by simp[z])) (λz=>hx (by simp[<-z])) q;⟨_,z⟩
 tups:=λ_ _ q=>q
 frzs:=λ_ _ _ q=>q
 tbls:=λb ps q=>⟨#[],by rw[q];simp⟩
theorem qa0{P:Program}{w:World}{fs:List Addr}{e:Addr}{oe:Obj}{T:Option Addr}{h h':Heap}{H:Hp}(ok:HOk P w H h)(g:Gone fs e oe T h h')(he:H e=none)(hT:∀T',T=some T'->H T'=none)(hf:∀b∈fs,H b=none):HOk P w H h':=λa o q=>by
 have ne:∀b u,H b=some u->b≠e/\some b≠T/\b ∉ fs:=λb u z=>⟨(λy=>by rw[y,he]at z;cases z),(λy=>by rw[hT b y.symm]at z;cases z),(λy=>by rw[hf b y]at z;cases z)⟩
 refine (ok a o q).stay (λb u hb z=>?_) (λ_ z=>z) λ_ _ z=>z
 rcases hb with rfl|hb
 ·obtain⟨h1,h2,h3⟩:=ne _ _ q
  exact g.keep _ _ h1 h2 h3 z
 ·obtain⟨h1,h2,h3⟩:=ne _ _ hb
  exact g.keep _ _ h1 h2 h3 z
theorem Gone.xat{fs:List Addr}{e C dx:Addr}{oe:Obj}{vs:Array Value}{T:Option Addr}{h h':Heap}(hc:oe.cls=.ref C)(hx:oe.dict=some dx)(hd:oe.data=.fields vs)(tr:Trc h e vs T)(g:Gone fs e oe T h h') :
  ∃T',XAt h' e C dx (some T')/\(h.objs.size<=T'\/T=some T'):=by
 obtain⟨T',a,b,c,oT,ts,fl,d⟩:=g.exc
 have hsz:1<vs.size:=by
  cases T with
  |none=>exact (qf5.mp (show vs[1]?=some .none from tr)).1
  |some T=>exact (qf5.mp tr.1).1
 obtain⟨oc,od,oda,osl⟩:=oe
 dsimp only at hc hx hd
 subst hc hx hd
 exact⟨T',⟨_,_,a,rfl,rfl,rfl,by simp[hsz],c,oT,ts,fl,d⟩,b⟩
structure FpN(X:Cx)(pins:List (Addr×Obj))(H:Hp)(b:Addr):Prop where
 ok:zn9 X pins H b
 new:X.s₀.heap.objs.size<=b
theorem Inv.fpN{X:Cx}{pins:List (Addr×Obj)}{σ:St}{H H':Hp}{s:Shared}{b:Addr}(I:Inv X pins σ H s)(hb:s.heap.objs.size<=b)(hn:H' b=none):FpN X pins H' b:=⟨I.fpOk hb hn,qfq I.sz hb⟩
section
variable{X:Cx}{pins:List (Addr×Obj)}{σ:St}{H:Hp}{s:Shared}
theorem ztc{e:Addr}{oe:Obj}{T:Option Addr}{h':Heap}(I:Inv X pins σ H s)(g:Gone (frs X.stack) e oe T s.heap h')(ho:s.heap.get? e=some oe)(fe:FpN X pins H e)(fT:∀T',T=some T'->FpN X pins H T') :
  Inv X pins σ H { s with heap:=h' }:=by
 refine I.call' (s':={ s with heap:=h' }) (ch:=e::T.toList) rfl (Gone.un ⟨_,ho⟩ g) (qa0 I.hok g fe.ok.1 (λT' z=>(fT T' z).ok.1) I.stkFree) I.bare λb hb=>?_
 have fb:FpN X pins H b:=by
  rcases qer.mp hb with rfl|hb
  ·exact fe
  ·exact fT b (by simpa using hb)
 exact⟨fb.ok.2.2.2.1,fb.ok.2.1,fb.ok.2.2.2.2.1,fb.ok.2.2.2.2.2⟩
def zb9(X:Cx)(E:XK):Prop:=∀(pins:List (Addr×Obj))(σ:St)(H:Hp)(s:Shared)(e C dx:Addr)(T:Option Addr),Inv X pins σ H s->XAt s.heap e C dx T->FpN X pins H e->(∀T',T=some T'->FpN X pins H T') ->
 E (.ref C) (some dx) H->X.xe (.ref e) s
theorem zq4{env env₀:Env}{e C dx:Addr}{T:Option Addr}{L:Addr}{E:Value->Shared->Prop}{Q:Unit->Shared->Prop}(I:Inv X pins σ H s)(xa:XAt s.heap e C dx T)(fe:FpN X pins H e)(fT:∀T',T=some T'->FpN X pins H T'){outer:List Env}(hst:X.stack=env₀::outer)(hf₀:env₀.frame=some L)(hf:env.frame=some L)(h:∀h' T',Inv X pins σ H { s with heap:=h' }->XAt h' e C dx (some T')->FpN X pins H T'->Q () { s with heap:=h' }):wpAny (model X.prog X.w) X.A (noteFrame (.ref e) env) Q E s:=by
 obtain⟨oe,vs,ho,hc,hx,hd,tr⟩:=xa
 refine noteX (outer:=outer) (env₀:=env₀) (base:=X.base) (by rw[I.ok.frames,hst]) (by rw[<-hst];exact I.stack) hf₀ hf ho hd tr λh' g=>?_
 have g':Gone (frs X.stack) e oe T s.heap h':=by rw[hst];exact g
 obtain⟨T',xa',hT'⟩:=Gone.xat hc hx hd tr g
 refine h h' T' (ztc I g' ho fe fT) xa' ?_
 rcases hT' with z|z
 ·exact I.fpN z (I.hok.fresh z)
 ·exact fT T' z
theorem zhs{e C dx T:Addr}{f:Option Addr}{E:Value->Shared->Prop}{Q:Unit->Shared->Prop}{A:Around}(I:Inv X pins σ H s)(xa:XAt s.heap e C dx (some T))(fe:FpN X pins H e)(fT:FpN X pins H T)(h:∀h' T',Inv X pins σ H { s with heap:=h' }->XAt h' e C dx (some T')->FpN X pins H T'->Q () { s with heap:=h' }):wpAny (model X.prog X.w) A (setFlight (.ref e) f) Q E s:=by
 obtain⟨oe,vs,ho,hc,hx,hd,tr⟩:=xa
 have fT':∀T',some T=some T'->FpN X pins H T':=λT' z=>by cases z;exact fT
 refine qdz (fs:=frs X.stack) ho hd tr λh' g=>?_
 obtain⟨T',xa',hT'⟩:=Gone.xat hc hx hd tr g
 refine h h' T' (ztc I g ho fe fT') xa' ?_
 rcases hT' with z|z
 ·exact I.fpN z (I.hok.fresh z)
 ·exact fT' T' z
end
def CX1(P:Program)(w:World):CXT:=λouter H s E ev s'=>∃(e C dx T:Addr)(H':Hp),ev=.ref e/\s'.os=s.os/\AllBare s'.gens/\Un (frs outer) [] H H' s.heap s'.heap/\HOk P w H' s'.heap/\XAt s'.heap e C dx (some T) ∧
 (s.heap.objs.size<=e/\H' e=none)/\(s.heap.objs.size<=T/\H' T=none)/\E (.ref C) (some dx) H'
theorem zdk{X:Cx}{E:XK}(t:zb9 X E):zts (CX1 X.prog X.w) X E:=by
 rintro pins σ H s ev s' I ⟨e,C,dx,T,H',rfl,os,bare,un,hok,xa,⟨h1,h2⟩,⟨h3,h4⟩,hE⟩
 exact t pins σ H' s' e C dx (some T) (I.call' (ch:=[]) os un hok bare λb hb=>nomatch hb) xa (I.fpN h1 h2) (λT' z=>by cases z;exact I.fpN h3 h4) hE
theorem zab{P:Program}{w:World}{K:qed}{mg:Str->Option Value}{base:Heap}{N:List Str}{qual:Str}{scope:Scope}{f:Addr}{cd:Value}{A:Around}{outer:List Env}{s₀:Shared}{H₀:Hp}{E:XK} :
  zb9 (zu4 (CX1 P w) P w K mg base N qual scope f cd A outer s₀ H₀ E) E:=by
 intro pins σ H s e C dx T I xa fe fT hE
 show wpAny (model P w) _ (leaving _ (.ref e)) _ _ s
 unfold leaving
 refine wpAny_bind (zq4 I xa fe fT (env₀:=envOfC qual scope s₀.heap.objs.size f cd) rfl rfl rfl λh1 T1 I1 xa1 fT1=>?_)
 refine zhs I1 xa1 fe fT1 λh2 T2 I2 xa2 fT2=>?_
 refine⟨e,C,dx,T2,H,rfl,I2.os,I2.bare,I2.base,I2.hok,xa2,⟨fe.new,fe.ok.1⟩,⟨fT2.new,fT2.ok.1⟩,hE⟩
theorem zbl{P:Program}{w:World}{K:qed}{mg:Str->Option Value}{base:Heap}{N:List Str}{qual:Str}{scope:Scope}{f:Addr}{cd:Value}{A:Around}{outer:List Env}{s₀:Shared}{H₀:Hp}{E:XK} :
  PassesOwn (model P w) (zu4 (CX1 P w) P w K mg base N qual scope f cd A outer s₀ H₀ E).A (zu4 (CX1 P w) P w K mg base N qual scope f cd A outer s₀ H₀ E).env (zu4 (CX1 P w) P w K mg base N qual scope f cd A outer s₀ H₀ E).xe:=PassesOwn.leaving
theorem Fun.okX{P:Program}{w:World}{K:qed}{mg:Str->Option Value}{base:Heap}{x qual:Str}{st:Stmt}{f:Addr}{fd:FuncData}{N ps:List Str}{k:Nat}{sp:Sp}(F:Fun K x qual st f fd)(S:zak N ps (zag st))(len:∀vs H Q E,sp vs H Q E->vs.length=ps.length)(hbody:∀(cdv:Value) (A:Around) (outer:List Env) (s:Shared) (H:Hp) (vs:List V) (Q:VK) (E:XK),Room k (A.deeper (envOfC qual (zag st) s.heap.objs.size f cdv))->sp vs H Q E ->
   ∃t,PSs (zu4 (CX1 P w) P w K mg base N qual (zag st) f cdv A outer s H E) (zbh st) t/\t { nx:=λ_ H'=>Q .non H',rt:=Q } (zh1 N vs) H):FnOk P w K mg base (CX1 P w) (k+1) f fd ps sp:=by
 obtain⟨oc,od,kV,doc,pm,an,cdv,ct,osl,rfl,lk,hcd⟩:=F.ex
 exact fn_of lk hcd S len λA outer s H vs Q E hr hsp=>hbody cdv A outer s H vs Q E hr hsp
open PySem PySem.Spec PyProof.Rows L3 PySem.Builtin PySem.Builtin.ObjectAttr
structure zvd(K:qed)(C R:Addr):Prop where
 cls:∃nm q N bs sn sub ab col dd k0 k1 k2 k3 k5,K.lookup C=some (clsX nm q C R N bs sn sub ab col dd k0 k1 k2 k3 k5)
 sa:qes K (.ref C) "__setattr__"=some (some (.builtin "object.__setattr__"))
 ga:qes K (.ref C) "__getattribute__"=some (some (.builtin "BaseException.__getattribute__"))
 gh:qes K (.ref C) "__getattr__"=some none
 nn:qes K (.ref C) "number"=some none
 na:qes K (.ref C) "at"=some none
 kp:qfs K (.ref C)=true
def zzb(C x:Addr):HO:=.ext λh=>∃t,h.get? x=some (zlo C t)
def xob(C dx x:Addr):HO:=.ext λh=>∃t,h.get? x=some { zlo C t with dict:=some dx }
def xdo(dx:Addr)(fs:List (Str×V)):HO:=.ext λh=>∃mA,h.Ns1 dx mA/\∀f,RelO (fs.lookup f) (mA f)
section
variable{P:Program}{w:World}{H:Hp}{h:Heap}{C x dx:Addr}{fs:List (Str×V)}
theorem qb4(e:∃t,h.get? x=some (zlo C t)):ObjOk P w H h x (zzb C x):=
 ⟨e,let ⟨t,q⟩:=e;⟨_,q⟩,λh1 h2 ⟨t,q⟩ k=>⟨t,k _ q⟩⟩
theorem xob_mk(e:∃t,h.get? x=some { zlo C t with dict:=some dx }):ObjOk P w H h x (xob C dx x):=
 ⟨e,let ⟨t,q⟩:=e;⟨_,q⟩,λh1 h2 ⟨t,q⟩ k=>⟨t,k _ q⟩⟩
theorem zvl(e:∃mA,h.Ns1 dx mA/\∀f,RelO (fs.lookup f) (mA f)):ObjOk P w H h dx (xdo dx fs):=
 ⟨e,let ⟨mA,⟨o,es,ep,ho,_⟩,_⟩:=e;⟨_,ho⟩,λh1 h2 ⟨mA,⟨o,es,ep,ho,r⟩,q⟩ k=>⟨mA,⟨o,es,ep,k _ ho,r⟩,q⟩⟩
theorem zt9{mA:Str->Option Value}(r:∀f,RelO (fs.lookup f) (mA f)):PySem.Within mA (fs.map (·.1)):=λf hf=>by
 cases e:fs.lookup f with
 |none=>exact absurd (RelO.none_of (by rw[<-e];exact r f)) hf
 |some v=>exact qe1.mpr ⟨(f,v),PySem.mem_of_lookup e,rfl⟩
theorem zwf{mA:Str->Option Value}{f:Str}{y:V}{u:Value}(ry:RelV y u)(r:∀f,RelO (fs.lookup f) (mA f)):∀g,RelO ((zmm f y fs).lookup g) (if g=f then some u else mA g):=λg=>by
 rw[zgu]
 by_cases q:g=f
 ·rw[if_pos q,if_pos q];exact ry
 ·rw[if_neg q,if_neg q];exact r g
end
section
variable{prog:Program}{w:World}{A:Around}{s:Shared}{K:qed}{x C R:Addr}{R':Result->Shared->Prop}
theorem osaX{ox:Obj}{od:Option Obj}{name:Str}{tk:Tok}{v:Value}(X:K.In s.heap)(I:PySem.W.InstAt s.heap x ox C od)(c:zvd K C R)(ht:NoAttr K C name)(h:∀b,wpAny (model prog w) A.in1 (storeInOwnDict (.ref x) (.ref C) (.str name tk) name v b)
   (λfin s'=>match fin with|.done f=>R' (.ok f) s'|.again c'=>c'.quiet=true/\codeAny (model prog w) A c' R' s') (λe s'=>R' (.error e) s') s) :
  codeAny (model prog w) A (.call (.builtin "object.__setattr__") ⟨[.ref x,.str name tk,v],[]⟩) R' s:=by
 have SF:=PySem.F.store_object
 have SE:=PySem.F.store_Exception
 obtain⟨nm,q,N,bs,sn,sub,ab,col,dd,k0,k1,k2,k3,k5,lk⟩:=c.cls
 have hc:qgt K C=some { name:=nm,bases:=bs,mro:=.ref C::.ref R::bmE,ns:=N,qualname:=q,hasDict:=true,slotNames:=sn,subclasses:=sub,abstract:=ab,collection:=col,hasDel:=false }:=by
  unfold qgt;rw[lk]
 have sub:PySem.W.Looks (model prog w) s.heap (isInstance (.ref x) (.type "object")) true:=I.type.andThen (qjl X (by unfold PySem.W.mroIn;rw[hc,qe4];rfl))
 refine codeAny_call_builtin SF.slot.plain SF.entry (@PySem.W.check_slot (model prog w) _ _ s "object.__setattr__" "object" "__setattr__" (.ref x) [.str name tk,v] [] _ SF.kind SF.split sub (SF.args (.ref x) (.str name tk) v) ?_)
 have hm:PySem.W.Looks (model prog w) s.heap (mroOf (.ref C)) (.ref C::.ref R::bmE):=(qhn X hc).andThen .now
 rw[PySem.W.osa_eq,refuse_eq]
 refine wpAny_bind (wpAny_bind (I.type.here (wpAny_bind (hm.here ?_))))
 have pp:refuseLoop (.ref x) "__setattr__" bmE=pure ():=SE.passes _
 rw[refuseLoop_ref,refuseLoop_ref,pp]
 refine wpAny_pure (wpAny_bind (I.type.here (wpAny_bind ((qhc X ht).here (wpAny_bind (wpAny_pure ?_))))))
 exact h _
theorem getX{ox:Obj}{od:Option Obj}{name:Str}{v:Value}{expr:Bool}{Q:Value->Shared->Prop}{E:Value->Shared->Prop}(X:K.In s.heap)(I:PySem.W.InstAt s.heap x ox C od)(c:zvd K C R)(hf:PySem.W.findObj K C od name=some (.value v))(hh:qiy v=true)(h:Q v { s with toks:=s.toks+1 }):wpAny (model prog w) A (getAttr (.ref x) name expr) Q E s:=by
 have FB:=PySem.F.attr_Exception
 obtain⟨nm,q,N,bs,sn,sub,ab,col,dd,k0,k1,k2,k3,k5,lk⟩:=c.cls
 have hc:qgt K C=some { name:=nm,bases:=bs,mro:=.ref C::.ref R::bmE,ns:=N,qualname:=q,hasDict:=true,slotNames:=sn,subclasses:=sub,abstract:=ab,collection:=col,hasDel:=false }:=by
  unfold qgt;rw[lk]
 have f3:=FB.ga.bind (.ref x)
 have hx0:(expr && onTheHeap (Value.builtin "BaseException.__getattribute__"))=false:=by cases expr <;> rfl
 have hx2:(Value.builtin "BaseException.__getattribute__" == Value.builtin "object.__getattribute__")=false:=by decide +kernel
 have hx1:(onTheHeap (Value.ref C) && Value.builtin "BaseException.__getattribute__" == Value.builtin "object.__getattribute__")=false:=by rw[hx2];rfl
 have hk:builtinKind "BaseException.__getattribute__"=some .slot:=by decide +kernel
 have hsplit:splitId "BaseException.__getattribute__"=some ("BaseException","__getattribute__"):=by decide +kernel
 obtain⟨hp,g,d,tk,os⟩:=s
 have L0:=I.type (M:=model prog w)
 have L1:=qhc (M:=model prog w) X c.ga
 have L2:PySem.W.Looks (model prog w) hp (hookBefore (.ref C)) none:=PySem.W.looks_hook X (by exact c.gh)
 have L3:=PySem.W.looks_find (M:=model prog w) X I hf
 have sub:PySem.W.Looks (model prog w) hp (isInstance (.ref x) (.type "BaseException")) true:=I.type.andThen (qjl X (by unfold PySem.W.mroIn;rw[hc,qe4];rfl))
 unfold getAttr getAttrBy
 refine wpAny_bind (wpAny_mkText (wpAny_holding (wpAny_bind (L0.at (wpAny_bind (L1.at ?_))))))
 show wpAny _ _ (if (onTheHeap (Value.ref C) && Value.builtin "BaseException.__getattribute__" == Value.builtin "object.__getattribute__")=true then _ else _) _ _ _
 rw[hx1,if_neg (by decide)]
 unfold getAttrByItsOwn
 refine wpAny_bind (L2.at (wpAny_bind (wpAny_attempt (wpAny_holding ?_))))
 unfold callGetattribute
 rw[hx0,if_neg (by decide)]
 unfold boundAndCalled
 rw[f3]
 refine wpAny_bind (wpAny_pure (wpAny_call ?_))
 refine codeAny_call_builtin FB.ga.plain PySem.F.entry_bexc_ga (@PySem.W.check_slot (model prog w) _ _ ⟨hp,g,d,tk+1,os⟩ "BaseException.__getattribute__" "BaseException" "__getattribute__" (.ref x) [.str name tk] [] _ hk hsplit sub (PySem.F.args_bexc_ga (.ref x) (.str name tk)) ?_)
 refine wpAny_bind (wpAny_pure (wpAny_bind (wpAny_pure (wpAny_bind (L0.at (wpAny_bind (L3.at ?_)))))))
 refine wpAny_pure ?_
 show wpAny _ _ (handedOut v) _ _ _
 rw[PySem.W.handedOut_of hh]
 exact wpAny_pure h
theorem setX0{t:Addr}{name:Str}{v:Value}{Q:Unit->Shared->Prop}{E:Value->Shared->Prop}(X:K.In s.heap)(hx:s.heap.get? x=some (zlo C t))(c:zvd K C R)(ht:NoAttr K C name)(h:∀(h1 h':Heap),h1.get? x=some { zlo C t with dict:=some s.heap.objs.size }->(∀b o,b≠x->(s.heap.push { cls:=.type "dict",data:=.dict #[] }).get? b=some o->h1.get? b=some o)->h1.objs.size=s.heap.objs.size+1 ->
   h'.Ns1 s.heap.objs.size (λy=>if y=name then some v else none)->Heap.SameBut s.heap.objs.size h1 h'->Q () { s with heap:=h',toks:=s.toks+2 }) :
  wpAny (model prog w) A (setAttr (.ref x) name v) Q E s:=by
 have I:PySem.W.InstAt s.heap x (zlo C t) C none:=⟨hx,rfl,rfl,trivial⟩
 obtain⟨nm,q,N,bs,sn,sub,ab,col,dd,k0,k1,k2,k3,k5,lk⟩:=id c.cls
 have hc:qgt K C=some { name:=nm,bases:=bs,mro:=.ref C::.ref R::bmE,ns:=N,qualname:=q,hasDict:=true,slotNames:=sn,subclasses:=sub,abstract:=ab,collection:=col,hasDel:=false }:=by
  unfold qgt;rw[lk]
 refine qip X I c.sa (osaX (s:={ s with toks:=s.toks+1 }) X I c ht λb=>?_)
 have hxs:x≠s.heap.objs.size:=qe9 (Heap.lt_size hx)
 have hx₁:(s.heap.push { cls:=.type "dict",data:=.dict #[] }).get? x=some (zlo C t):=Heap.get?_push_of_some _ hx
 refine wpAny_bind (wpAny_pure (wpAny_bind (wpAny_bind (wpAny_loadPart hx (wpAny_bind (PySem.W.Looks.here (s:={ s with toks:=s.toks+1 }) (qhn X hc) ?_))))))
 refine wpAny_bind (wpAny_alloc' ?_)
 refine wpAny_bind (wpAny_update' hx₁ ?_)
 refine wpAny_pure ?_
 generalize hh1:((s.heap.push { cls:=.type "dict",data:=.dict #[] }).update x λo=>{ cls:=o.cls,dict:=some s.heap.objs.size,data:=o.data,slots:=o.slots })=h1
 have g1:h1.get? s.heap.objs.size=some { cls:=.type "dict",data:=.dict #[] }:=by
  rw[<-hh1];exact (Heap.get?_update_ne _ _ _ _ hxs.symm).trans (Heap.get?_push_at rfl rfl)
 have g2:h1.get? x=some { zlo C t with dict:=some s.heap.objs.size }:=by
  rw[<-hh1];exact Heap.get?_update_self _ hx₁ rfl
 have nd:h1.Ns s.heap.objs.size (λ_=>none):=⟨_,#[],_,g1,rfl,λe he=>absurd he (by simp),λ_=>rfl⟩
 show wpAny _ _ (storeInDict s.heap.objs.size (.str name _) name v) _ _ _
 unfold storeInDict newKeyGuard
 refine wpAny_bind (wpAny_pure (wpAny_bind (wpAny_nsSet1 (Heap.Ns1.of_empty nd) λh' hn' hs=>?_)))
 obtain⟨oD,esD,epD,hoD,hdD,hcD⟩:=hn'.count (Within.cons name v Within.nil)
 refine wpAny_bind (wpAny_lookBehind hoD (by rw[hdD];exact pastItsLine_dict (qfq hcD (by rw[qeg,qe8,sizeLine_eq];lia))) ?_)
 exact wpAny_pure (h h1 h' g2 (λb o hb q=>by rw[<-hh1];exact (Heap.get?_update_ne _ _ _ _ hb).trans q) (by rw[<-hh1,Heap.size_update,Heap.size_push]) hn' hs)
theorem setX1{t dx:Addr}{name:Str}{v:Value}{mA:Str->Option Value}{ns:List Str}{Q:Unit->Shared->Prop}{E:Value->Shared->Prop}(X:K.In s.heap)(hx:s.heap.get? x=some { zlo C t with dict:=some dx })(hn:s.heap.Ns1 dx mA)(c:zvd K C R)(ht:NoAttr K C name)(hw:PySem.Within mA ns)(hsz:ns.length<=1000)(h:∀h',h'.Ns1 dx (λy=>if y=name then some v else mA y)->Heap.SameBut dx s.heap h'->Q () { s with heap:=h',toks:=s.toks+2 }) :
  wpAny (model prog w) A (setAttr (.ref x) name v) Q E s:=by
 obtain⟨od,ho,hl⟩:=zkp hn
 have I:PySem.W.InstAt s.heap x { zlo C t with dict:=some dx } C (some od):=⟨hx,rfl,rfl,ho⟩
 obtain⟨nm,q,N,bs,sn,sub,ab,col,dd,k0,k1,k2,k3,k5,lk⟩:=id c.cls
 have hc:qgt K C=some { name:=nm,bases:=bs,mro:=.ref C::.ref R::bmE,ns:=N,qualname:=q,hasDict:=true,slotNames:=sn,subclasses:=sub,abstract:=ab,collection:=col,hasDel:=false }:=by
  unfold qgt;rw[lk]
 refine qip X I c.sa (osaX (s:={ s with toks:=s.toks+1 }) X I c ht λb=>?_)
 refine wpAny_bind (wpAny_pure (wpAny_bind (wpAny_bind (wpAny_loadPart hx (wpAny_bind (PySem.W.Looks.here (s:={ s with toks:=s.toks+1 }) (qhn X hc) ?_))))))
 refine wpAny_pure (a:=some dx) (wpAny_bind (wpAny_pure (wpAny_bind ?_)))
 refine wpAny_nsSet1 (s:={ s with toks:=s.toks+1 }) hn λh' hn2 hs2=>?_
 obtain⟨oD,esD,epD,hoD,hdD,hcD⟩:=hn2.count (PySem.Within.cons name v hw)
 refine wpAny_bind (wpAny_lookBehind hoD (by rw[hdD];exact pastItsLine_dict (qfq hcD (by rw[qeg,sizeLine_eq];lia))) ?_)
 exact wpAny_pure (h _ hn2 hs2)
end
section
variable{X:Cx}{o e value:Expr}{f:Str}{pos pos' tpos:Pos}{ta tv:TE}
def sX0(K:qed)(ta tv:TE)(f:Str):TS:=λD σ H=>tv σ H λy H1=>ta σ H1 λx H2=>∃a C R,x=.ref a/\H2 a=some (zzb C a)/\zvd K C R/\NoAttr K C f ∧
 ∀dx,H2 dx=none->dx≠a->D.nx σ (upd (upd (upd H2 dx (xdo dx [])) a (xob C dx a)) dx (xdo dx [(f,y)]))
def sX1(K:qed)(ta tv:TE)(f:Str):TS:=λD σ H=>tv σ H λy H1=>ta σ H1 λx H2=>∃a C R dx fs,x=.ref a/\H2 a=some (xob C dx a)/\H2 dx=some (xdo dx fs)/\dx≠a/\zvd K C R/\NoAttr K C f/\fs.length<=1000 ∧
 D.nx σ (upd H2 dx (xdo dx (zmm f y fs)))
theorem zzz(ha:PE X o ta)(hv:PE X value tv)(hs:swapsWith value (some (.Attribute o f pos')) pos.line X.env=pure false):PS X (.Assign [.Attribute o f pos'] value pos) (sX0 X.K ta tv f):=by
 intro pins s σ H D I h
 refine plainObj_wpAny_Assign_Attribute (thn (hv pins s σ H _ I h) λu s1 ⟨y,H1,I1,ry,q⟩=>thn (ha pins s1 σ H1 _ I1 q) λov s2 ⟨x,H2,I2,rx,a,C,R,ex,ea,c,n,q2⟩=>?_) hs
 subst ex
 obtain rfl:ov=Value.ref a:=rx
 obtain⟨⟨t,hx⟩,_,_⟩:=I2.hok a _ ea
 refine setX0 I2.kIn hx c n λh1 h' g1 k1 z1 hn sb=>?_
 have hxs:a≠s2.heap.objs.size:=qe9 (Heap.lt_size hx)
 have e1:(s2.heap.push { cls:=.type "dict",data:=.dict #[] }).get? s2.heap.objs.size=some { cls:=.type "dict",data:=.dict #[] }:=Heap.get?_push_size s2.heap rfl
 have e3:(s2.heap.push { cls:=.type "dict",data:=.dict #[] }).Ns s2.heap.objs.size (λ_=>none):=⟨_,#[],_,e1,rfl,(λe he=>absurd he (by simp)),λ_=>rfl⟩
 have J1:=I2.laid (a:=s2.heap.objs.size) (o:=xdo s2.heap.objs.size []) (h':=s2.heap.push { cls:=.type "dict",data:=.dict #[] }) (t':=s2.toks) (λb u q=>Heap.get?_push_of_some _ q) (qek _) (zvl ⟨_,Heap.Ns1.of_empty e3,λ_=>True.intro⟩)
 have ea1:(upd H2 s2.heap.objs.size (xdo s2.heap.objs.size [])) a=some (zzb C a):=by rw[zah hxs];exact ea
 have J2:=J1.write (x:=a) (e:=a) (o:=xob C s2.heap.objs.size a) (h':=h1) (t':=s2.toks) (by rw[ea1];exact True.intro) (.inl rfl) (λb u hb q=>k1 b u hb q) ⟨_,g1⟩ (xob_mk ⟨t,g1⟩)
 have g3:h1.get? s2.heap.objs.size=some { cls:=.type "dict",data:=.dict #[] }:=k1 _ _ hxs.symm e1
 have J3:=J2.write (x:=s2.heap.objs.size) (e:=s2.heap.objs.size) (o:=xdo s2.heap.objs.size [(f,y)]) (h':=h') (t':=s2.toks+2) (by rw[zah hxs.symm,zad];exact True.intro) (.inl rfl) (λb u hb q=>(sb.2 b hb).trans q)
  (let ⟨o,_,_,ho,_⟩:=hn;⟨o,ho⟩) (zvl ⟨_,hn,λg=>by
   have:=zwf (f:=f) (fs:=[]) ry (mA:=λ_=>none) (λ_=>True.intro) g
   exact this⟩)
 exact⟨σ,_,J3,q2 _ (I2.hok.fresh (qek _)) hxs.symm⟩
theorem zzy(ha:PE X o ta)(hv:PE X value tv)(hs:swapsWith value (some (.Attribute o f pos')) pos.line X.env=pure false):PS X (.Assign [.Attribute o f pos'] value pos) (sX1 X.K ta tv f):=by
 intro pins s σ H D I h
 refine plainObj_wpAny_Assign_Attribute (thn (hv pins s σ H _ I h) λu s1 ⟨y,H1,I1,ry,q⟩=>thn (ha pins s1 σ H1 _ I1 q) λov s2 ⟨x,H2,I2,rx,a,C,R,dx,fs,ex,ea,ed,ne,c,n,l,q2⟩=>?_) hs
 subst ex
 obtain rfl:ov=Value.ref a:=rx
 obtain⟨⟨t,hx⟩,_,_⟩:=I2.hok a _ ea
 obtain⟨⟨mA,hn,r⟩,_,_⟩:=I2.hok dx _ ed
 refine setX1 I2.kIn hx hn c n (zt9 r) (by rw[qec];exact l) λh' hn' sb=>?_
 have J:=I2.write (x:=dx) (e:=dx) (o:=xdo dx (zmm f y fs)) (h':=h') (t':=s2.toks+2) (by rw[ed];exact True.intro) (.inl rfl) (λb u hb q=>(sb.2 b hb).trans q)
  (let ⟨o,_,_,ho,_⟩:=hn';⟨o,ho⟩) (zvl ⟨_,hn',zwf ry r⟩)
 exact⟨σ,_,J,q2⟩
end
def del(H:Hp)(e:Addr):Hp:=λb=>if b=e then none else H b
theorem qa5{H:Hp}{e:Addr}:del H e e=none:=by unfold del;rw[if_pos rfl]
theorem zyh{H:Hp}{e b:Addr}(h:b≠e):del H e b=H b:=by unfold del;rw[if_neg h]
theorem Inv.del{X:Cx}{pins:List (Addr×Obj)}{σ:St}{H:Hp}{s:Shared}{e:Addr}{φ:Heap->Prop}(I:Inv X pins σ H s)(he:H e=some (.ext φ)):Inv X pins σ (L2.del H e) s:=by
 have no:∀b,H b=none->L2.del H e b=none:=λb z=>by unfold L2.del;split <;> first|rfl|exact z
 have yes:∀b u,H b=some u->(∀ψ,u≠.ext ψ)->L2.del H e b=some u:=λb u z n=>by
  rw[zyh (λy=>by rw[y,he]at z;cases z;exact n φ rfl)];exact z
 refine⟨I.ok,I.os,I.bare,⟨I.base.keep,I.base.slot,λb o q n hx=>no b (I.base.free b o q n hx),I.base.there,λb xs q=>yes _ _ (I.base.tups b xs q) (λ_ z=>nomatch z),λb o u q=>yes _ _ (I.base.frzs b o u q) (λ_ z=>nomatch z),λb ps q=>?_⟩,
  I.loc,I.cell,no _ I.free,λx c q=>no _ (I.freeC x c q),λp hp=>?_,λb u q=>?_,I.len⟩
 ·obtain⟨m,z⟩:=I.base.tbls b ps q
  exact⟨m,yes _ _ z (λ_ z=>nomatch z)⟩
 ·obtain⟨h1,h2,h3⟩:=I.pin p hp
  exact⟨h1,no _ h2,h3⟩
 ·have q':H b=some u:=by
   unfold L2.del at q
   split at q
   ·cases q
   ·exact q
  exact (I.hok b u q').stay (λ_ _ _ z=>z) (λc z=>yes _ _ z (λ_ z=>nomatch z)) λc xs z=>yes _ _ z (λ_ z=>nomatch z)
section
variable{X:Cx}{k:Nat}{f C R:Addr}{fd:FuncData}{ps:List Str}{sp:Sp}{E:XK}{x:Str}{p pos:Pos}{e:Expr}{es:List Expr}{t:TA}
structure XMk(K:qed)(C R f:Addr):Prop where
 cl:zvd K C R
 init:qes K (.ref C) "__init__"=some (some (.ref f))
 fn:qhp K (.ref f)=true
theorem zoy{pins:List (Addr×Obj)}{σ:St}{H:Hp}{s:Shared}{Q:Addr->Hp->Prop}{us:List Value}{vs:List V}(M:XMk X.K C R f)(F:FnOk X.prog X.w X.K X.mg X.base (CX1 X.prog X.w) k f fd ps sp)(hr:Room (k+1) X.A)(hb:Binds X.K fd ps [])(I:Inv X pins σ H s)(r:Vals vs us)(hz:us.length<=sizeLine)(h:∀x,H x=none->sp (.ref x::vs) (upd H x (zzb C x)) (λv H2=>v=.non/\Q x H2) (λ_ _ _=>False)) :
  wpAny (model X.prog X.w) X.A (call (.ref C) us) (λv s'=>∃x H2,v=.ref x/\s.heap.objs.size<=x/\Inv X pins σ H2 s'/\Q x H2) X.xe s:=by
 obtain⟨nm,q,N,bs,sn,sub,ab,col,dd,k0,k1,k2,k3,k5,lk⟩:=id M.cl.cls
 obtain⟨oI,hoI,hcI⟩:∃oI,X.K.lookup f=some oI/\oI.cls=.type "function":=by
  have z:=beq_iff_eq.mp M.fn
  exact qei.mp z
 have hq:=h (s.heap.objs.size+1) (I.hok.fresh (qjv _))
 obtain⟨hh,g,d,tk,os⟩:=s
 have J1:=I.kept (h':=hh.push { cls:=.type "tuple",data:=.seq us.toArray }) (t':=tk) (λb u z=>Heap.get?_push_of_some _ z)
 have ex:((hh.push { cls:=.type "tuple",data:=.seq us.toArray }).push (zlo C hh.objs.size)).get? (hh.objs.size+1)=some (zlo C hh.objs.size):=by
  have:=Heap.get?_push_size (hh.push { cls:=.type "tuple",data:=.seq us.toArray }) (o:=zlo C hh.objs.size) rfl
  rwa [Heap.size_push]at this
 have J2:=J1.laid (a:=hh.objs.size+1) (o:=zzb C (hh.objs.size+1)) (h':=(hh.push { cls:=.type "tuple",data:=.seq us.toArray }).push (zlo C hh.objs.size)) (t':=tk) (λb u z=>Heap.get?_push_of_some _ z) (qg5 (Heap.size_push _ _)) (qb4 ⟨_,ex⟩)
 have r2:Vals (V.ref (hh.objs.size+1)::vs) (Value.ref (hh.objs.size+1)::us):=.cons rfl r
 have hl:(Value.ref (hh.objs.size+1)::us).length=ps.length:=by
  have e:=r2.length
  rw[F.len _ _ _ _ hq]at e
  exact e.symm
 refine callX (I.kIn _ _ lk) (qhc I.kIn M.init) (I.kIn _ _ hoI) hcI hz ?_
 refine wpAny_call (codeAny_mono (F.run _ X.stack _ _ ⟨Value.ref (hh.objs.size+1)::us,[]⟩ (Value.ref (hh.objs.size+1)::us) _ _ _ (hr.make C us [])
  (J2.env0.make C us []) (by have z:=hb _ (Value.ref (hh.objs.size+1)::us) J2.kIn (by rw[qfe];exact hl);rwa [qfe]at z) r2 hq) λr s' hq'=>?_)
 cases r with
 |error e=>
  obtain⟨e,C,dx,T,H',_,_,_,_,_,_,_,_,hE⟩:=hq'
  exact hE.elim
 |ok fl=>
  cases fl with
  |ret u=>
   obtain⟨v,H',I3,rv,ev,q3⟩:=J2.after hq'
   subst ev
   exact⟨rv,hh.objs.size+1,H',rfl,qjv _,I3,q3⟩
  |next=>exact False.elim hq'
  |brk=>exact False.elim hq'
  |cont=>exact False.elim hq'
def qb8(K:qed)(C:Addr)(sp:Sp)(E:XK)(t:TA):TS:=λD σ H=>t σ H λvs H1=>vs.length<=sizeLine/\∀x,H1 x=none ->
 sp (.ref x::vs) (upd H1 x (zzb C x)) (λv H2=>v=.non/\∃dx,H2 x=some (xob C dx x)/\E (.ref C) (some dx) (del H2 x)) (λ_ _ _=>False)
theorem zml{pins:List (Addr×Obj)}{σ:St}{H:Hp}{s:Shared}{env:Env}{xs:Sem Value}{Q:Flow->Shared->Prop}(M:XMk X.K C R f)(th:zb9 X E)(hh:X.A.handled=none)(I:Inv X pins σ H s)(h:wpAny (model X.prog X.w) X.A xs (λv s'=>∃x H2 s1,v=.ref x/\X.s₀.heap.objs.size<=x/\(∀p∈X.pn++pins,p.1≠x)/\(∀y c,X.env.cells.lookup y=some c->c≠x)/\s1=s'/\Inv X pins σ H2 s'/\∃dx,H2 x=some (xob C dx x)/\E (.ref C) (some dx) (del H2 x)) X.xe s) :
  wpAny (model X.prog X.w) X.A (raiseStmt env (some xs) none) Q X.xe s:=by
 obtain⟨nm,q,N,bs,sn,sub,ab,col,dd,k0,k1,k2,k3,k5,lk⟩:=id M.cl.cls
 refine zzx (nm:=nm) (q:=q) (C:=C) (R:=R) (N:=N) (bs:=bs) (sn:=sn) (sub:=sub) (ab:=ab) (col:=col) (dd:=dd) (k0:=k0) (k1:=k1) (k2:=k2) (k3:=k3) (k5:=k5) hh (thn h λv s1 hv=>?_)
 obtain⟨x,H2,_,rfl,hx0,hpin,hcell,_,I2,dx,hx,hE⟩:=hv
 obtain⟨⟨t,ho⟩,_,_⟩:=I2.hok x _ hx
 refine⟨x,_,rfl,I2.kIn _ _ lk,ho,rfl,⟨t,rfl⟩,?_⟩
 have I3:=Inv.del I2 hx
 refine th pins σ _ _ x C dx none I3 ⟨_,_,ho,rfl,rfl,rfl,rfl⟩ ⟨⟨qa5,λz=>?_,λz=>?_,.inr hx0,hcell,hpin⟩,hx0⟩ (λT' z=>nomatch z) hE
 ·have:=I2.free;rw[<-z,hx]at this;cases this
 ·have hs:∀b∈X.fs,b∈frs X.stack:=λb hb=>by
   rcases I2.ok.stk with e|⟨e,ef⟩
   ·rw[e];exact hb
   ·rw[e]
    show b∈(X.env::X.outer).filterMap (·.frame)
    rw[qhm,ef]
    exact qfa _ hb
  have:=I2.stkFree x (hs x z)
  rw[hx]at this;cases this
theorem ztg{pins:List (Addr×Obj)}{σ:St}{H:Hp}{s:Shared}{x:Addr}(I:Inv X pins σ H s)(hx:s.heap.objs.size<=x):X.s₀.heap.objs.size<=x/\(∀p∈X.pn++pins,p.1≠x)/\∀y c,X.env.cells.lookup y=some c->c≠x:=
 let fp:=I.fpOk (H':=λ_=>none) hx rfl
 ⟨qfq I.sz hx,fp.2.2.2.2.2,fp.2.2.2.2.1⟩
theorem zwk(M:XMk X.K C R f)(F:FnOk X.prog X.w X.K X.mg X.base (CX1 X.prog X.w) k f fd ps sp)(hr:Room (k+1) X.A)(hg:Gl X x)(hm:X.mg x=some (.ref C))(hb:Binds X.K fd ps [])(th:zb9 X E)(hdb:(x == ("__debug__":Str))=false:=by decide){pos':Pos} :
  PS X (.Raise (some (.Call (.Name x p) [] [] pos)) none pos') (qb8 X.K C sp E qca):=by
 intro pins s σ H D I h
 rw[arm_exec_Raise]
 refine wpAny_bind (wpAny_standAt ?_)
 refine zml M th hr.hd I (wpAny_bind (thn ?_ λv s1 hv=>wpAny_bind (wpAny_standAt (wpAny_pure hv))))
 refine wpAny_Call_Name_kw (zfj I hg hm ?_ hdb)
 refine qig I.kIn M.cl.kp ?_
 refine thn (zoy (us:=[]) (vs:=[]) M F hr hb I .nil (qf4 _) h.2) λv s2 ⟨x',H2,e1,e2,I2,q2⟩=>?_
 obtain⟨f1,f2,f3⟩:=ztg I e2
 exact⟨x',H2,s2,e1,f1,f2,f3,rfl,I2,q2⟩
end
structure qbd(K:qed)(R:Addr)(m:Str)(f:Addr):Prop where
 sp:PySem.W.specialIn K (.ref R) "__getattribute__"=some (some (.builtin "type.__getattribute__"))
 rd:PySem.W.readsIn K R (.type "type")=true
 fc:PySem.W.findCls K (.ref R) (.type "type") m=some (.val (.ref f))
 kp:qfs K (.ref f)=true
section
variable{X:Cx}{k:Nat}{f R:Addr}{fd:FuncData}{ps:List Str}{sp:Sp}{E:XK}{x m:Str}{p pos apos:Pos}{e:Expr}{es:List Expr}{t:TA}
theorem zke{pl:Sem Bool}(cm:qbd X.K R m f)(F:FnOk X.prog X.w X.K X.mg X.base (CX1 X.prog X.w) k f fd ps sp)(hr:Room k X.A)(hg:Gl X x)(hm:X.mg x=some (.ref R))(hb:Binds X.K fd ps [])(hx:zts (CX1 X.prog X.w) X E)(ha:PA X (e::es) t)(hdb:(x == ("__debug__":Str))=false:=by decide)(hst:starEach (e::es) X.env=(false,eval e X.env)::starEach es X.env:=by rfl)(hpl:(backTo pos (starEach es X.env)).any (·.1)=false:=by rfl)(ht:eval (.Call (.Attribute (.Name x p) m apos) (e::es) [] pos) X.env=(do
   let ov <-eval (.Name x p) X.env
   standAt apos.atName
   let (f,first) <-holding [ov] (getMethod ov m pl)
   callWith pos f first (backTo pos (starEach (e::es) X.env)) (backToKw pos (keywordEach [] X.env))):=by rfl) :
  PE X (.Call (.Attribute (.Name x p) m apos) (e::es) [] pos) (tCall sp [] E t):=by
 intro pins s σ H Q I h
 refine qg6 (pl:=pl) (zfj I hg hm ?_ hdb) ht
 refine PySem.W.method_cls I.kIn cm.sp (PySem.W.cls_value I.kIn cm.rd cm.fc rfl ?_)
 have I':=I.tok (s.toks+1)
 refine qgu (first:=[]) (h₀:=X.base) I.ok.mod.kin cm.kp (thn (ha pos pins _ σ H _ I' h) λus s2 ⟨vs,H2,I2,r,q2⟩=>⟨I2.kIn,?_⟩) hst hpl
 exact zmj (us:=us) (vs:=vs) F hr hb .nil hx I2 r q2
end
section
variable{X:Cx}
theorem zt3{E:XK}{pins:List (Addr×Obj)}{σ:St}{H3:Hp}{s3:Shared}{scope:Scope}{cl:List (Str×Addr)}{fp:List Addr}{use:Option (Value->Sem Unit)}{Qf:Value->Shared->Prop}{D:Addr}(th:zb9 X E)(hst:X.stack=X.env::X.outer)(hfr:X.env.frame=some X.env.locals)(I3:Inv X pins σ H3 s3)(f3:∀b∈fp,zn9 X pins H3 b) :
  zb9 ((X.blk s3 H3 scope (compEnvC scope cl s3.heap.objs.size X.env) fp).wish (notedBy (model X.prog X.w) X.A (compEnvC scope cl s3.heap.objs.size X.env) λe s'=>compPost (model X.prog X.w) X.A X.xe use Qf (.ref D) s3.heap.objs.size (.error e) s')) E:=by
 intro pins' σ' H s e C dx T I xa fe fT hE
 show wpAny (model X.prog X.w) X.A (noteFrame (.ref e) (compEnvC scope cl s3.heap.objs.size X.env)) _ _ s
 refine zq4 (X:=(X.blk s3 H3 scope (compEnvC scope cl s3.heap.objs.size X.env) fp).wish _) I xa fe fT (env₀:=X.env) (outer:=X.outer) hst hfr hfr λh1 T1 I1 xa1 fT1=>?_
 have J:Inv X pins σ H { s with heap:=h1 }:=I3.call' (ch:=fp) I1.os I1.base I1.hok I1.bare λb hb=>⟨(f3 b hb).2.2.2.1,(f3 b hb).2.1,(f3 b hb).2.2.2.2.1,(f3 b hb).2.2.2.2.2⟩
 have nC:H s3.heap.objs.size=none:=I1.free
 obtain⟨m,hn,_⟩:=I1.loc
 refine⟨m,hn,λh2 sb cenv hcl=>?_⟩
 have fC:zn9 X pins H s3.heap.objs.size:=I3.fpOk (qek _) nC
 have J2:Inv X pins σ H { s with heap:=h2 }:=J.turned (t':=s.toks) (λb o hb e=>(sb.2 b hb).trans e) fC.1 fC.2.1 fC.2.2.2.1 fC.2.2.2.2.1 fC.2.2.2.2.2
 have fe2:FpN X pins H e:=I3.fpN fe.new fe.ok.1
 have fT2:FpN X pins H T1:=I3.fpN fT1.new fT1.ok.1
 have ne:e≠s3.heap.objs.size:=fe.ok.2.1
 have nT:T1≠s3.heap.objs.size:=fT1.ok.2.1
 obtain⟨oe,vs,ho,hc,hx,hd,t1,t2,oT,ts,fl,t3,t4⟩:=xa1
 have ho2:h2.get? e=some oe:=(sb.2 e ne).trans ho
 have xa2:XAt h2 e C dx (some T1):=⟨oe,vs,ho2,hc,hx,hd,t1,t2,oT,ts,fl,(sb.2 T1 nT).trans t3,t4⟩
 unfold PySem.passOn
 refine wpAny_bind (wpAny_field ho2 hd t1 ?_)
 rw[if_neg (show ¬((Value.ref T1 == Value.none)=true) from by simp)]
 have step:wpAny (model X.prog X.w) X.A (setFlight (.ref e) cenv.frame) (λ_ s''=>X.xe (.ref e) s'') X.xe { s with heap:=h2 }:=by
  refine zhs J2 xa2 fe2 fT2 λh3 T3 I3' xa3 fT3=>?_
  exact th pins σ H _ e C dx (some T3) I3' xa3 fe2 (λT' z=>by cases z;exact fT3) hE
 first
  |exact wpAny_bind (wpAny_mono step (λ_ _ z=>wpAny_throw z) λ_ _ z=>z)
  |exact wpAny_bind (wpAny_pure (wpAny_bind (wpAny_mono step (λ_ _ z=>wpAny_throw z) λ_ _ z=>z)))
theorem qaw{E:XK}{pins:List (Addr×Obj)}{s:Shared}{σ:St}{H:Hp}{Q:VK}{elt tg iter:Expr}{ifs:List Expr}{scope:Scope}{own:List (Str×Nat)}{pos pos':Pos}{wi:TI}{g:TG}{tt:TT}{te:TE}{use:Option (Value->Sem Unit)}{Qf:Value->Shared->Prop}(th:zb9 X E)(hst:X.stack=X.env::X.outer)(hfr:X.env.frame=some X.env.locals)(hc:X.calm=true)(hN:X.N.Nodup)(I:Inv X pins σ H s)(hi:PI X tg iter wi)(ok:zr8 X.N X.env.scope scope own)(hg:∀(s:Shared) (H:Hp) (C:Addr) (cl:List (Str×Addr)) (fp:List Addr),PG (X.blk s H scope (compEnvC scope cl C X.env) fp) tg g)(ht:∀(s:Shared) (H:Hp) (C:Addr) (cl:List (Str×Addr)) (fp:List Addr),PTs (X.blk s H scope (compEnvC scope cl C X.env) fp) ifs tt)(he:∀(s:Shared) (H:Hp) (C:Addr) (cl:List (Str×Addr)) (fp:List Addr) (E':Value->Shared->Prop),zb9 ((X.blk s H scope (compEnvC scope cl C X.env) fp).wish E') E->PE ((X.blk s H scope (compEnvC scope cl C X.env) fp).wish E') elt te)(hs:∀x,foldedSetIterable iter X.env x=pure x)(h:tLc wi g tt te (own.map (·.2)) σ H Q)(hRR:∀D C s' m H',Inv X pins σ H' s'->Q (.ref D) H'->s'.heap.Ns C m->zn9 X pins H' C->compPost (model X.prog X.w) X.A X.xe use Qf (.ref D) C (.ok .next) s') :
  wpAny (model X.prog X.w) X.A (comprehension (.ListComp elt [⟨tg,iter,ifs,0⟩] scope pos) scope X.env pos' (newList []) false (eval iter X.env) use) Qf X.xe s:=by
 have hfree:∀y∈scope.names,y.2=.free->∃c,X.env.cells.lookup y.1=some c:=λy hy e=>by
  rcases ok.free y hy e with k|k
  ·exact I.ok.has _ (.inl k)
  ·exact I.ok.has _ (.inr k)
 refine wpAny_comprehension_free (use:=use) rfl hs (zii hfree) ok.kind (λy hy e=>by rw[ok.uniq y hy,e])
  (thn (hi pins s σ H _ I h) λxv s1 hx=>thn hx λitv s2 h2=>?_)
 obtain⟨it,fp,tn,J,H2,e,I2,T,st2,f2,q⟩:=h2
 subst e
 refine wpAny_newObj_type (zkl ?_) (by show 0<=sizeLine;decide)
 generalize hD:s2.heap.objs.size=D
 have hDn:H2 D=none:=I2.hok.fresh (qg5 hD)
 obtain⟨W,⟨m0,w0⟩,turn⟩:=q D hDn
 generalize hs3:({ s2 with heap:=s2.heap.push { cls:=.type "list",data:=.seq ([]:List Value).toArray } }:Shared)=s3
 have I3:Inv X pins σ (upd H2 D (.lst [])) s3:=by
  rw[<-hs3]
  refine I2.laid (t':=s2.toks) (λb o e=>Heap.get?_push_of_some _ e) (qg5 hD) ⟨qf4 _,[],0,.nil,?_⟩
  rw[<-hD]
  exact Heap.get?_push_size _ rfl
 have h3:s3.heap=s2.heap.push { cls:=.type "list",data:=.seq ([]:List Value).toArray }:=by rw[<-hs3]
 have sz:∀b∈fp,b<s2.heap.objs.size:=λb hb=>by
  obtain⟨o,e,_⟩:=T.obj _ _ st2 b hb
  exact Heap.lt_size e
 have f3:∀b∈fp,zn9 X pins (upd H2 D (.lst [])) b/\b<s3.heap.objs.size:=λb hb=>by
  have hlt:=sz b hb
  refine⟨⟨?_,(f2 b hb).2⟩,by rw[h3,Heap.size_push];exact qh0 hlt⟩
  rw[zah (by rw[<-hD];exact qe9 hlt)]
  exact (f2 b hb).1
 have st3:tn 0 s3.heap:=T.keep _ _ _ st2 λb _ o e=>by rw[h3];exact Heap.get?_push_of_some _ e
 have I4:=zk9 I3 ok hN f3
 have thB:=zt3 (scope:=scope) (cl:=cellsFrom (s3.heap.objs.size+1) scope.names (za1 X.env.cells scope.names [])) (use:=use) (Qf:=Qf) (D:=D) th hst hfr I3 λb hb=>(f3 b hb).1
 have pg:=hg s3 (upd H2 D (.lst [])) s3.heap.objs.size (cellsFrom (s3.heap.objs.size+1) scope.names (za1 X.env.cells scope.names [])) fp
 have pt:=ht s3 (upd H2 D (.lst [])) s3.heap.objs.size (cellsFrom (s3.heap.objs.size+1) scope.names (za1 X.env.cells scope.names [])) fp
 have pe:=he s3 (upd H2 D (.lst [])) s3.heap.objs.size (cellsFrom (s3.heap.objs.size+1) scope.names (za1 X.env.cells scope.names [])) fp _ thB
 show codeAny _ _ (.compStart (.ListComp elt [⟨tg,iter,ifs,0⟩] scope pos) 0 (.ref it) (.ref D) (compEnvC scope (cellsFrom (s3.heap.objs.size+1) scope.names (za1 X.env.cells scope.names [])) s3.heap.objs.size X.env)) (compPost (model X.prog X.w) X.A X.xe use Qf (.ref D) s3.heap.objs.size) { s3 with heap:=pushCells (s3.heap.push { cls:=.type "dict",data:=.dict #[] }) scope.names }
 have nfp:∀b∈fp,(upd H2 D (.lst [])) b=none:=λb hb=>(f3 b hb).1.1
 clear thB
 generalize hce:compEnvC scope (cellsFrom (s3.heap.objs.size+1) scope.names (za1 X.env.cells scope.names [])) s3.heap.objs.size X.env=ce at I4 pg pt pe ⊢
 have cL:ce.locals=s3.heap.objs.size:=by subst hce;rfl
 generalize hH3:upd H2 D (.lst [])=H3 at I3 I4 pg pt pe w0 nfp f3
 generalize hs4:({ s3 with heap:=pushCells (s3.heap.push { cls:=.type "dict",data:=.dict #[] }) scope.names }:Shared)=s4 at I4 ⊢
 have st4:tn 0 s4.heap:=T.keep _ _ _ st3 λb _ o e=>by rw[<-hs4];exact pushCells_keeps _ _ _ _ (Heap.get?_push_of_some _ e)
 have stat:∀{σ':St}{H':Hp}{s':Shared},Inv (X.blk s3 H3 scope ce fp) [] σ' H' s'->(∀b∈fp,H' b=none)->∀b∈fp,zn9 (X.blk s3 H3 scope ce fp) [] H' b:=λ{σ' H' s'} I' hn b hb=>
  ⟨hn b hb,(I'.ok.exf b hb).1,I'.ok.exfs b hb,.inl hb,λx c e=>(I'.ok.exf b hb).2 x c e,λp hp=>absurd (show p∈([]:List (Addr×Obj))++[] from hp) (by simp)⟩
 have loop:codeAny (model X.prog X.w) X.A (.compLoop (.ListComp elt [⟨tg,iter,ifs,0⟩] scope pos) 0 (.ref it) (.ref D) ce) (compPost (model X.prog X.w) X.A X.xe use Qf (.ref D) s3.heap.objs.size) s4:=by
  refine zi3 (λn s'=>∃i H',Inv (X.blk s3 H3 scope ce fp) [] (zdc σ (own.map (·.2))) H' s'/\tn i s'.heap/\(∀b∈fp,H' b=none)/\W i n H') ?_ m0 ⟨0,H3,I4,st4,nfp,w0⟩
  rintro n s5 ⟨i,H5,I5,st5,n5,w5⟩
  rcases turn i n H5 w5 with ⟨stop,qq⟩|⟨go,Nx,hNx,step⟩
  ·have td:=T.done (X.blk s3 H3 scope ce fp) rfl rfl rfl hc i [] s5 _ H5 (λ_ _=>False) I5 (stat I5 n5) st5 stop
   refine zvw td λr s6 ⟨hr,I6⟩=>?_
   subst hr
   have I7:Inv X pins σ H5 s6:=I3.call' (ch:=fp) I6.os I6.base I6.hok I6.bare λb hb=>⟨(f3 b hb).1.2.2.2.1,(f3 b hb).1.2.1,(f3 b hb).1.2.2.2.2.1,(f3 b hb).1.2.2.2.2.2⟩
   have nC:H5 s3.heap.objs.size=none:=by
    have z:H5 ce.locals=none:=I6.free
    rw[cL]at z
    exact z
   obtain⟨m,hn,_⟩:=I6.loc
   have hn:s6.heap.Ns ce.locals m:=hn
   rw[cL]at hn
   exact hRR D s3.heap.objs.size s6 m H5 I7 qq hn (I3.fpOk (qek _) nC)
  ·have ti:=T.item (X.blk s3 H3 scope ce fp) rfl rfl rfl hc i [] s5 _ H5 (λ_ _=>False) I5 (stat I5 n5) st5 go
   refine zvw ti λr s6 ⟨u,hr,h6⟩=>?_
   subst hr
   refine zvw h6 λ_ s7 ⟨x,H7,I7,r7,y7,st7,n7⟩=>?_
   have I7':=I7.pinned (stat I7 n7) (T.obj _ _ st7)
   refine zvw (pg _ s7 _ H7 x u _ I7' r7 (step x H7 y7)) λ_ s8 ⟨σ8,H8,I8,hw8,q8⟩=>?_
   refine zvw (pt _ s8 σ8 H8 _ I8 q8) λb s9 ⟨H9,I9,q9⟩=>?_
   have fin:∀{s':Shared}{H':Hp},Inv (X.blk s3 H3 scope ce fp) ([]++zmp fp s7.heap) σ8 H' s'->Nx H'->∃m,m<n/\∃i H',Inv (X.blk s3 H3 scope ce fp) [] (zdc σ (own.map (·.2))) H' s'/\tn i s'.heap/\(∀b∈fp,H' b=none)/\W i m H':=λ{s' H'} I' nx=>by
    obtain⟨m',hm,w'⟩:=hNx H' nx
    have pin':∀b∈fp,∀o,s7.heap.get? b=some o->s'.heap.get? b=some o/\H' b=none:=λb hb o e=>
     let z:=I'.pin (b,o) (qfi _ (qfi _ (zf1 hb e)))
     ⟨z.1,z.2.1⟩
    have hl:(zdc σ (own.map (·.2))).length=σ8.length:=by rw[<-hw8,zel]
    refine⟨m',hm,i+1,H',(I'.unpinned (pins:=[])).weak hl (λj v e=>?_),T.keep _ _ _ st7 λb hb o e=>(pin' b hb o e).1,λb hb=>?_,w'⟩
    ·rw[<-hw8]at e
     exact (zg5 e).1
    ·obtain⟨o,e,_⟩:=T.obj _ _ st7 b hb
     exact (pin' b hb o e).2
   cases b with
   |false=>
    simp only[qe0,if_false]at q9 ⊢
    exact fin I9 q9
   |true=>
    simp only[if_true]at q9 ⊢
    refine thn (pe _ s9 σ8 H9 _ (I9.wish _) q9) λz s10 ⟨yv,H10,I10,r10,acc,hD10,hz10,nx⟩=>?_
    exact qbz (X:=X.blk s3 H3 scope ce fp) I10.unwish hD10 hz10 r10 λs11 I11=>fin I11 nx
 exact codeAny_compStart_list loop (T.self X.A 0 _ _ _ st4 loop)
theorem zo1{E:XK}{i:Nat}{y:Str}{py:Pos}{elt tg iter:Expr}{ifs:List Expr}{scope:Scope}{own:List (Str×Nat)}{pos spos:Pos}{wi:TI}{g:TG}{tt:TT}{te:TE}(th:zb9 X E)(hst:X.stack=X.env::X.outer)(hfr:X.env.frame=some X.env.locals)(hc:X.calm=true)(hN:X.N.Nodup)(hy:X.N[i]?=some y)(hyl:X.env.scope.names.lookup y=some .local)(hsw:swapsWith (.ListComp elt [⟨tg,iter,ifs,0⟩] scope pos) (some (.Name y py)) spos.line X.env=pure true)(hi:PI X tg iter wi)(ok:zr8 X.N X.env.scope scope own)(hg:∀(s:Shared) (H:Hp) (C:Addr) (cl:List (Str×Addr)) (fp:List Addr),PG (X.blk s H scope (compEnvC scope cl C X.env) fp) tg g)(ht:∀(s:Shared) (H:Hp) (C:Addr) (cl:List (Str×Addr)) (fp:List Addr),PTs (X.blk s H scope (compEnvC scope cl C X.env) fp) ifs tt)(he:∀(s:Shared) (H:Hp) (C:Addr) (cl:List (Str×Addr)) (fp:List Addr) (E':Value->Shared->Prop),zb9 ((X.blk s H scope (compEnvC scope cl C X.env) fp).wish E') E->PE ((X.blk s H scope (compEnvC scope cl C X.env) fp).wish E') elt te)(hs:∀x,foldedSetIterable iter X.env x=pure x:=by intro _;rfl) :
  PS X (.Assign [.Name y py] (.ListComp elt [⟨tg,iter,ifs,0⟩] scope pos) spos) (tAsg (tLc wi g tt te (own.map (·.2))) (zi6 i)):=by
 intro pins s σ H D I h
 rw[exec_Assign_Name_used _ _ _ _ hsw]
 refine wpAny_bind (wpAny_standAt (wpAny_bind ?_))
 show wpAny _ X.A (do let _ <-comprehension (.ListComp elt [⟨tg,iter,ifs,0⟩] scope pos) scope X.env (firstIterPos [⟨tg,iter,ifs,0⟩] pos) (newList []) false (eval iter X.env) (some (assign (.Name y py) X.env))) _ _ s
 have h:tLc wi g tt te (own.map (·.2)) σ H (λx H1=>zi6 i x σ H1 D.nx):=h
 refine wpAny_bind (thn (qaw (Qf:=λ_ s'=>SP X pins D .next s') th hst hfr hc hN I hi ok hg ht he hs h λL C s' m H' I' q hn f=>?_) λ_ s' hq=>wpAny_pure (wpAny_pure hq))
 show wpAny _ _ (assign (.Name y py) X.env (.ref L)) _ _ _
 refine wpAny_assign_Name (zjv (v:=V.ref L) I' hN hy (.inl hyl) rfl (λs2 I2 ⟨a,sb,ha⟩=>?_) (.inr hyl))
 obtain⟨f0,f1,f2,f3,f4,f5⟩:=f
 have haC:C≠a:=by
  rcases ha with z|z
  ·rw[z];exact f1
  ·exact λe=>f4 y a z e.symm
 refine⟨m,hn.sameBut sb haC,λh3 sb3=>?_⟩
 exact⟨_,H',I2.turned (t':=s2.toks) (λb o hb e=>(sb3.2 b hb).trans e) f0 f1 f3 f4 f5,q⟩
end
def xrd(C dx e:Addr):HO:=.ext λh=>∃oe vs,h.get? e=some oe/\oe.cls=.ref C/\oe.dict=some dx/\oe.data=.fields vs
theorem xrd_mk{P:Program}{w:World}{H:Hp}{h:Heap}{C dx e:Addr}{T:Option Addr}(x:XAt h e C dx T):ObjOk P w H h e (xrd C dx e):=by
 obtain⟨oe,vs,h1,h2,h3,h4,_⟩:=x
 exact⟨⟨oe,vs,h1,h2,h3,h4⟩,⟨_,h1⟩,λa b ⟨oe,vs,h1,h2⟩ k=>⟨oe,vs,k _ h1,h2⟩⟩
section
variable{X:Cx}{pins:List (Addr×Obj)}{σ:St}{H:Hp}{s:Shared}
theorem Inv.track{e:Addr}{o:HO}(I:Inv X pins σ H s)(fe:FpN X pins H e)(no:ObjOk X.prog X.w (upd H e o) s.heap e o):Inv X pins σ (upd H e o) s:=by
 have hn:H e=none:=fe.ok.1
 refine⟨I.ok,I.os,I.bare,⟨I.base.keep,I.base.slot,λb ob q n hx=>?_,I.base.there,λb xs q=>?_,λb ob u q=>?_,λb ps q=>?_⟩,I.loc,I.cell,?_,λx c q=>?_,λp hp=>?_,λb u q=>?_,I.len⟩
 ·rw[zah (qe9 (qep (Heap.lt_size q) fe.new))];exact I.base.free b ob q n hx
 ·have z:=I.base.tups b xs q;rw[zah (zai z hn)];exact z
 ·have z:=I.base.frzs b ob u q;rw[zah (zai z hn)];exact z
 ·obtain⟨m,z⟩:=I.base.tbls b ps q;exact⟨m,by rw[zah (zai z hn)];exact z⟩
 ·rw[zah (Ne.symm fe.ok.2.1)];exact I.free
 ·rw[zah (fe.ok.2.2.2.2.1 x c q)];exact I.freeC x c q
 ·obtain⟨h1,h2,h3⟩:=I.pin p hp
  exact⟨h1,by rw[zah (fe.ok.2.2.2.2.2 p hp)];exact h2,h3⟩
 ·by_cases hb:b=e
  ·subst hb;rw[zad]at q;cases q;exact no
  ·rw[zah hb]at q
   exact (I.hok b u q).stay (λ_ _ _ z=>z) (λc z=>by rw[zah (zai z hn)];exact z) λc xs z=>by rw[zah (zai z hn)];exact z
theorem Inv.forget{h':Heap}{m':Str->Option Value}{t:Nat}(I:Inv X pins σ H s)(hn':h'.Ns X.env.locals m')(hs:Heap.SameBut X.env.locals s.heap h'):Inv X pins (qem σ.length none) H { s with heap:=h',toks:=t }:=by
 obtain⟨m,hn,_⟩:=id I.loc
 obtain⟨oL,_,_,hoL,_⟩:=id hn
 have neL:∀b o,X.s₀.heap.get? b=some o->b≠X.env.locals:=λb o e=>qe9 (qep (Heap.lt_size e) I.ok.above)
 refine⟨I.ok,I.os,I.bare,⟨λb o e n hb hx=>(hs.2 b (neL b o e)).trans (I.base.keep b o e n hb hx),λb o e n hb hx=>?_,I.base.free,λb o e hx=>?_,I.base.tups,I.base.frzs,I.base.tbls⟩,⟨m',hn',λj y v e1 e2 e3=>?_⟩,λy c e=>?_,I.free,I.freeC,λp hp=>?_,λb u e=>?_,by rw[qh2];exact I.len⟩
 ·obtain⟨sl,e1⟩:=I.base.slot b o e n hb hx
  exact⟨sl,(hs.2 b (neL b o e)).trans e1⟩
 ·obtain⟨o',e1⟩:=I.base.there b o e hx
  exact⟨o',(hs.2 b (neL b o e)).trans e1⟩
 ·rw[qg0]at e2
  split at e2 <;> cases e2
 ·obtain⟨w',z⟩:=I.cell y c e
  exact⟨w',z.sameBut hs (I.cne y c e)⟩
 ·obtain⟨e,n,ne,nf,d⟩:=I.pin p hp
  exact⟨(hs.2 p.1 ne).trans e,n,ne,nf,d⟩
 ·refine (I.hok b u e).stay (λc w' hc q=>(hs.2 c ?_).trans q) (λ_ q=>q) λ_ _ q=>q
  intro z
  have hf:=I.free
  rcases hc with hc|hc
  ·rw[<-z,hc,e]at hf;cases hf
  ·rw[<-z,hc]at hf;cases hf
end
def tXFld(K:qed)(ta:TE)(f:Str):TE:=λσ H Q=>ta σ H λx H1=>∃a C R dx fs v,x=.ref a/\H1 a=some (xrd C dx a)/\H1 dx=some (xdo dx fs)/\zvd K C R/\NoAttr K C f/\fs.lookup f=some v/\Q v H1
theorem qc4{X:Cx}{e:Expr}{f:Str}{pos:Pos}{ta:TE}(he:PE X e ta)(hb:attributeBase e f X.env (eval e X.env)=eval e X.env):PE X (.Attribute e f pos) (tXFld X.K ta f):=by
 intro pins s σ H Q I h
 refine zyv hb (thn (he pins s σ H _ I h) λu s1 ⟨x,H1,I1,rx,a,C,R,dx,fs,v,ex,ea,ed,c,n,l,q⟩=>?_)
 subst ex
 obtain rfl:u=Value.ref a:=rx
 obtain⟨⟨oe,vs,ho,hc,hx,hd⟩,_,_⟩:=I1.hok a _ ea
 obtain⟨⟨mA,hn,r⟩,_,_⟩:=I1.hok dx _ ed
 obtain⟨od,hod,hl⟩:=zkp hn
 obtain⟨u,hu,ru⟩:=RelO.some_of (v:=v) (o:=mA f) (by rw[<-l];exact r f)
 obtain⟨oc,odi,oda,osl⟩:=oe
 dsimp only at hc hx hd
 subst hc hx hd
 have J:PySem.W.InstAt s1.heap a ⟨.ref C,some dx,.fields vs,osl⟩ C (some od):=⟨ho,rfl,rfl,hod⟩
 obtain⟨nm,q',N,bs,sn,sub,ab,col,dd,k0,k1,k2,k3,k5,lk⟩:=id c.cls
 have hh:qha X.K C=true:=by unfold qha qgt;rw[lk];rfl
 exact getX I1.kIn J c (qjj hh n rfl (by rw[hl,hu])) (zpm ru) ⟨v,H1,I1.tok _,ru,q⟩
def RCls(K:qed)(R:Addr):Prop:=∃nm q N bs sn sub ab col dd k0 k1 k2 k3 k5,K.lookup R=some (excClassObj nm q R N bs bmE true sn sub ab col dd k0 k1 k2 k3 k5 "Exception.__new__")
theorem matchX{M:Model}{A:Around}{K:qed}{E:Value->Shared->Prop}{s:Shared}{e C R:Addr}{oe:Obj}{Q:Bool->Shared->Prop}(X:K.In s.heap)(c:zvd K C R)(r:RCls K R)(he:s.heap.get? e=some oe)(hc:oe.cls=.ref C)(h:Q true s) :
  wpAny M A (excMatches (.ref e) (.ref R)) Q E s:=by
 obtain⟨nm,q,N,bs,sn,sub,ab,col,dd,k0,k1,k2,k3,k5,lk⟩:=c.cls
 obtain⟨nm',q',N',bs',sn',sub',ab',col',dd',k0',k1',k2',k3',k5',lk'⟩:=r
 have hC:=X _ _ lk
 have hR:=X _ _ lk'
 obtain⟨hp,g,d,tk,os⟩:=s
 obtain⟨oc,odi,oda,osl⟩:=oe
 dsimp only at hc
 subst hc
 have c1:(Value.ref R::bmE).contains (.type "BaseException")=true:=by rw[qfv,show bmE.contains (.type "BaseException")=true from by decide,Bool.or_true]
 have c2:(Value.ref C::.ref R::bmE).contains (.ref R)=true:=by simp
 have hnt:isSubtype (.type "type") (.type "tuple")=pure false:=by kernel_rfl
 unfold excMatches
 repeat (first|(rw[show isSubtype (excClassObj nm' q' R N' bs' bmE true sn' sub' ab' col' dd' k0' k1' k2' k3' k5' "Exception.__new__").cls (Value.type "tuple")=pure false from hnt])|with_reducible refine wpAny_loadPart_at he ?_|with_reducible refine wpAny_loadPart_at hR ?_|(with_reducible refine wpAny_isSubtype_exc hR ?_;rw[c1])|(with_reducible refine wpAny_isSubtype_exc hC ?_;rw[c2])|wp_step)
 all_goals exact h
abbrev Cx.sut(X:Cx)(e:Value):Cx:={ X with A:=X.A.mark (some e),calm:=false,xe:=λ_ _=>False }
theorem Inv.sut{X:Cx}{pins:List (Addr×Obj)}{σ:St}{H:Hp}{s:Shared}(I:Inv X pins σ H s)(e:Value):Inv (X.sut e) pins σ H s:=
 ⟨⟨I.ok.mod,I.ok.kind,I.ok.glob,I.ok.blt,I.ok.above,I.ok.inj,I.ok.has,I.ok.cab,(λz=>nomatch z),I.ok.frames,I.ok.stk,I.ok.exf,I.ok.bs,I.ok.bsz,I.ok.noex,I.ok.exfs,I.ok.funs,I.ok.frf⟩,I.os,I.bare,I.base,I.loc,I.cell,I.free,I.freeC,I.pin,I.hok,I.len⟩
theorem Inv.unsut{X:Cx}{pins:List (Addr×Obj)}{σ:St}{H:Hp}{s:Shared}{e:Value}(ok:X.Ok)(I:Inv (X.sut e) pins σ H s):Inv X pins σ H s:=
 ⟨ok,I.os,I.bare,I.base,I.loc,I.cell,I.free,I.freeC,I.pin,I.hok,I.len⟩
abbrev Cx.pnd(X:Cx)(pn:List (Addr×Obj))(E:Value->Shared->Prop):Cx:={ X with pn:=pn,xe:=E }
theorem Cx.Ok.pnd{X:Cx}(ok:X.Ok)(pn:List (Addr×Obj))(E:Value->Shared->Prop):(X.pnd pn E).Ok:=
 ⟨ok.mod,ok.kind,ok.glob,ok.blt,ok.above,ok.inj,ok.has,ok.cab,ok.hd,ok.frames,ok.stk,ok.exf,ok.bs,ok.bsz,ok.noex,ok.exfs,ok.funs,ok.frf⟩
def tTry(tb ts:TS)(E:XK)(K:qed)(R:Addr)(i:Nat):TS:=λD σ H=>tb D σ H/\∀(e C dx:Addr)(σ':St)(H':Hp),σ'.length=σ.length->E (.ref C) (some dx) H'->H' e=none ->
 zvd K C R/\ts { nx:=λ_ _=>False,rt:=D.rt } (σ'.set i (some (.ref e))) (upd H' e (xrd C dx e))
theorem ps_try{X:Cx}{E:XK}{R:Addr}{body suite:List Stmt}{b₀:Stmt}{rx n:Str}{p hpos pos:Pos}{i:Nat}{tb ts:TS}(hst:X.stack=X.env::X.outer)(hfr:X.env.frame=some X.env.locals)(rc:RCls X.K R)(hg:Gl X rx)(hm:X.mg rx=some (.ref R))(hN:X.N.Nodup)(hi:X.N[i]?=some n)(hl:X.env.kindOf n=some .local)(hb:∀pn E',zb9 (X.pnd pn E') E->PSs (X.pnd pn E') body tb)(hs:∀e,PSs (X.sut e) (b₀::suite) ts)(hdb:(rx == ("__debug__":Str))=false:=by decide) :
  PS X (.Try body [.ExceptHandler (some (.Name rx p)) (some n) (b₀::suite) hpos] [] [] pos) (tTry tb ts E X.K R i):=by
 intro pins s σ H D I ⟨h1,h2⟩
 refine wpAny_Try_except ?_
 generalize hE':(λe s₁=>wpAny (model X.prog X.w) X.A (noteFrame e X.env) (λ_ s₂=>wpAny (model X.prog X.w) X.A (setFlight e none) (λ_ s₃=>wpAny (model X.prog X.w) X.A (handleBy e X.env [.ExceptHandler (some (.Name rx p)) (some n) (b₀::suite) hpos]) (SP X pins D) X.xe s₃) X.xe s₂) X.xe s₁)=E'
 have hlen:σ.length=X.N.length:=I.len
 have th:zb9 (X.pnd (X.pn++pins) E') E:=by
  intro pins' σ' H' s' e C dx T I' xa fe fT hE
  have J:Inv X pins σ' H' s':=⟨I.ok,I'.os,I'.bare,I'.base,I'.loc,I'.cell,I'.free,I'.freeC,λq hq=>I'.pin q (qft _ hq),I'.hok,I'.len⟩
  have fe':FpN X pins H' e:=⟨⟨fe.ok.1,fe.ok.2.1,fe.ok.2.2.1,fe.ok.2.2.2.1,fe.ok.2.2.2.2.1,λq hq=>fe.ok.2.2.2.2.2 q (qft _ hq)⟩,fe.new⟩
  have fT':∀T',T=some T'->FpN X pins H' T':=λT' z=>⟨⟨(fT T' z).ok.1,(fT T' z).ok.2.1,(fT T' z).ok.2.2.1,(fT T' z).ok.2.2.2.1,(fT T' z).ok.2.2.2.2.1,λq hq=>(fT T' z).ok.2.2.2.2.2 q (qft _ hq)⟩,(fT T' z).new⟩
  show E' (.ref e) s'
  rw[<-hE']
  refine zq4 J xa fe' fT' hst hfr hfr λg1 T1 J1 xa1 fT1=>?_
  refine zhs J1 xa1 fe' fT1 λg2 T2 J2 xa2 fT2=>?_
  obtain⟨xc,q2⟩:=h2 e C dx σ' H' (by rw[I'.len];exact hlen.symm) hE fe'.ok.1
  refine wpAny_handleBy_cons (codeAny_handlers_test ?_) (by intro q;cases q)
  have JS:=Inv.sut J2 (Value.ref e)
  refine zfj (X:=X.sut (.ref e)) JS hg hm ?_ hdb
  obtain⟨oe,vs,ho,hc,hx,hd,tr⟩:=id xa2
  refine matchX J2.kIn xc rc ho hc ?_
  refine codeAny_handlers_suite_as ?_
  refine zhs J2 xa2 fe' fT2 λg3 T3 J3 xa3 fT3=>?_
  have J4:Inv X pins σ' (upd H' e (xrd C dx e)) { s' with heap:=g3 }:=Inv.track J3 fe' (xrd_mk xa3)
  refine zna (v:=V.ref e) J4 hN hi (.inl hl) rfl (λs5 J5=>?_) (.inr hl)
  refine wpAny_mono (hs (.ref e) pins s5 _ _ _ (Inv.sut J5 _) q2) (λf s6 hf=>?_) λ_ _ z=>False.elim z
  have fin:∀{σ6:St}{H6:Hp},Inv X pins σ6 H6 s6->(∀s7,Inv X pins (qem σ6.length none) H6 s7->SP X pins D f s7)->wpAny (model X.prog X.w) X.A (do bindName X.env n .none;unbindBehindTheSuite X.env n hpos) (λ_ s7=>SP X pins D f s7) X.xe s6:=λ{σ6 H6} J6 k=>by
   obtain⟨m,hn,_⟩:=id J6.loc
   have hcls:(X.env.scope.kind == .class || (X.env.scope.kind == .module && X.env.locals != X.env.globals))=false:=by rw[J6.ok.kind];rfl
   exact wpAny_nameGoes hl hn hcls λh' m' hn' hs'=>k _ (Inv.forget J6 hn' hs')
  cases f with
  |next=>obtain⟨_,_,_,z⟩:=hf;exact False.elim z
  |brk=>obtain⟨_,_,_,z⟩:=hf;exact False.elim z
  |cont=>obtain⟨_,_,_,z⟩:=hf;exact False.elim z
  |ret u=>
   obtain⟨v,σ6,H6,J6,rv,q6⟩:=hf
   exact fin (Inv.unsut I.ok J6) λs7 J7=>⟨v,_,H6,J7,rv,q6⟩
 have I0:Inv (X.pnd (X.pn++pins) E') [] σ H s:=⟨I.ok.pnd _ _,I.os,I.bare,I.base,I.loc,I.cell,I.free,I.freeC,λq hq=>I.pin q (by simpa using hq),I.hok,I.len⟩
 have back:∀{σ':St}{H':Hp}{s':Shared},Inv (X.pnd (X.pn++pins) E') [] σ' H' s'->Inv X pins σ' H' s':=λ{σ' H' s'} I'=>
  ⟨I.ok,I'.os,I'.bare,I'.base,I'.loc,I'.cell,I'.free,I'.freeC,λq hq=>I'.pin q (by simpa using hq),I'.hok,I'.len⟩
 refine wpAny_mono (hb (X.pn++pins) E' th [] s σ H D I0 h1) (λf s1 hf=>?_) λ_ _ z=>z
 cases f with
 |next=>
  obtain⟨σ',H',I',q⟩:=hf
  exact wpAny_execs_nil ⟨σ',H',back I',q⟩
 |brk=>obtain⟨σ',H',I',q⟩:=hf;exact⟨σ',H',back I',q⟩
 |cont=>obtain⟨σ',H',I',q⟩:=hf;exact⟨σ',H',back I',q⟩
 |ret u=>obtain⟨v,σ',H',I',r,q⟩:=hf;exact⟨v,σ',H',back I',r,q⟩
section
variable(P:Program)(w:World)(K:qed)(mg:Str->Option Value)(base:Heap)
def Ok(k:Nat)(x:Str)(ps:List Str)(sp:Sp):Prop:=∃f fd,mg x=some (.ref f)/\qfs K (.ref f)=true/\Binds K fd ps []/\FnOk P w K mg base (CX1 P w) k f fd ps sp
def OkM(k:Nat)(C:Addr)(m:Str)(ps:List Str)(sp:Sp):Prop:=Cls K C/\∃f fd,Meth K C m f/\Binds K fd ps []/\FnOk P w K mg base (CX1 P w) k f fd ps sp
def OkC(k:Nat)(x:Str)(C:Addr)(ps:List Str)(sp:Sp):Prop:=mg x=some (.ref C)/\∃f fd,Mk K C f/\Binds K fd ps []/\FnOk P w K mg base (CX1 P w) k f fd ps sp
end
def qbh(sp:Sp)(E:XK)(t:TA):TE:=λσ H Q=>t σ H λvs H1=>sp vs H1 Q E
def zvx(C:Addr)(m:Str)(sp:Sp)(E:XK)(ta:TE)(t:TA):TE:=λσ H Q=>ta σ H λx H1=>∃a dx fs,x=.ref a/\H1 a=some (.ins C dx fs)/\fs.lookup m=none/\t σ H1 λvs H2=>sp (x::vs) H2 Q E
def tMakeN(C:Addr)(sp:Sp)(E:XK)(t:TA):TE:=λσ H Q=>t σ H λvs H1=>∀x dx,H1 x=none->H1 dx=none->dx≠x ->
 sp (.ref x::vs) (upd (upd H1 dx (.own x)) x (.ins C dx [])) (λv H2=>v=.non/\Q (.ref x) H2) E
section
variable{X:Cx}{k:Nat}{C:Addr}{ps:List Str}{sp:Sp}{E:XK}{x m:Str}{p pos apos:Pos}{e o:Expr}{es:List Expr}{ta:TE}{t:TA}
theorem cN(O:Ok X.prog X.w X.K X.mg X.base k x ps sp)(hr:Room k X.A)(th:zb9 X E)(ha:PA X (e::es) t)(hg:Gl X x:=by rfl)(hdb:(x == ("__debug__":Str))=false:=by decide)(he:starEach (e::es) X.env=(false,eval e X.env)::starEach es X.env:=by rfl)(hpl:(backTo pos (starEach es X.env)).any (·.1)=false:=by rfl) :
  PE X (.Call (.Name x p) (e::es) [] pos) (qbh sp E t):=by
 obtain⟨f,fd,hm,hk,hb,F⟩:=O
 intro pins s σ H Q I h
 refine wpAny_Call_Name_kw (zfj I hg hm ?_ hdb)
 refine qgu (h₀:=X.base) I.ok.mod.kin hk (thn (ha pos pins s σ H _ I h) λus s1 ⟨vs,H1,I1,r,q⟩=>⟨I1.kIn,?_⟩) he hpl
 exact zmj F hr hb .nil (zdk th) I1 r (by rw[qfe];exact q)
theorem cN0(O:Ok X.prog X.w X.K X.mg X.base k x ps sp)(hr:Room k X.A)(th:zb9 X E)(hg:Gl X x:=by rfl)(hdb:(x == ("__debug__":Str))=false:=by decide):PE X (.Call (.Name x p) [] [] pos) (qbh sp E qca):=by
 obtain⟨f,fd,hm,hk,hb,F⟩:=O
 intro pins s σ H Q I h
 refine wpAny_Call_Name_kw (zfj I hg hm ?_ hdb)
 exact qig I.kIn hk (zmj (us:=[]) F hr hb .nil (zdk th) I .nil h)
theorem cM{pl:Sem Bool}(O:OkM X.prog X.w X.K X.mg X.base k C m ps sp)(hr:Room k X.A)(th:zb9 X E)(he:PE X o ta)(ha:PA X (e::es) t)(hst:starEach (e::es) X.env=(false,eval e X.env)::starEach es X.env:=by rfl)(hpl:(backTo pos (starEach es X.env)).any (·.1)=false:=by rfl)(ht:eval (.Call (.Attribute o m apos) (e::es) [] pos) X.env=(do
   let ov <-eval o X.env
   standAt apos.atName
   let (f,first) <-holding [ov] (getMethod ov m pl)
   callWith pos f first (backTo pos (starEach (e::es) X.env)) (backToKw pos (keywordEach [] X.env))):=by rfl) :
  PE X (.Call (.Attribute o m apos) (e::es) [] pos) (zvx C m sp E ta t):=by
 obtain⟨c,f,fd,hm,hb,F⟩:=O
 intro pins s σ H Q I h
 refine qg6 (pl:=pl) (thn (he pins s σ H _ I h) λu s1 ⟨x,H1,I1,rx,a,dx,fs,ex,ea,l,q⟩=>?_) ht
 subst ex
 obtain rfl:u=Value.ref a:=rx
 refine zif I1 ea c hm l ?_
 refine qgu (first:=[.ref a]) (h₀:=X.base) I.ok.mod.kin hm.kp (thn (ha pos pins s1 σ H1 _ I1 q) λus s2 ⟨vs,H2,I2,r,q2⟩=>⟨I2.kIn,?_⟩) hst hpl
 exact zmj (us:=.ref a::us) (vs:=.ref a::vs) F hr hb .nil (zdk th) I2 (.cons rfl r) (by rw[qfe];exact q2)
theorem cM0{pl:Sem Bool}(O:OkM X.prog X.w X.K X.mg X.base k C m ps sp)(hr:Room k X.A)(th:zb9 X E)(he:PE X o ta)(ht:eval (.Call (.Attribute o m apos) [] [] pos) X.env=(do
   let ov <-eval o X.env
   standAt apos.atName
   let (f,first) <-holding [ov] (getMethod ov m pl)
   callWith pos f first (backTo pos (starEach [] X.env)) (backToKw pos (keywordEach [] X.env))):=by rfl) :
  PE X (.Call (.Attribute o m apos) [] [] pos) (zvx C m sp E ta qca):=by
 obtain⟨c,f,fd,hm,hb,F⟩:=O
 intro pins s σ H Q I h
 refine qg6 (pl:=pl) (thn (he pins s σ H _ I h) λu s1 ⟨x,H1,I1,rx,a,dx,fs,ex,ea,l,q⟩=>?_) ht
 subst ex
 obtain rfl:u=Value.ref a:=rx
 refine zif I1 ea c hm l ?_
 exact qig (first:=[.ref a]) I1.kIn hm.kp (zmj (us:=[.ref a]) (vs:=[.ref a]) F hr hb .nil (zdk th) I1 (.cons rfl .nil) q)
theorem cC(O:OkC X.prog X.w X.K X.mg X.base k x C ps sp)(hr:Room (k+1) X.A)(th:zb9 X E)(ha:PA X (e::es) t)(hg:Gl X x:=by rfl)(hdb:(x == ("__debug__":Str))=false:=by decide)(he:starEach (e::es) X.env=(false,eval e X.env)::starEach es X.env:=by rfl)(hpl:(backTo pos (starEach es X.env)).any (·.1)=false:=by rfl) :
  PE X (.Call (.Name x p) (e::es) [] pos) (tMakeN C sp E t):=by
 obtain⟨hm,f,fd,M,hb,F⟩:=O
 intro pins s σ H Q I h
 refine wpAny_Call_Name_kw (zfj I hg hm ?_ hdb)
 refine qgu (h₀:=X.base) I.ok.mod.kin M.kp (thn (ha pos pins s σ H _ I h) λus s1 ⟨vs,H1,I1,r,q⟩=>⟨I1.kIn,?_⟩) he hpl
 exact zzv M F hr hb .nil (zdk th) I1 r λx dx h1 h2 h3=>by rw[qfe];exact q x dx h1 h2 h3
end
def GF(K:qed)(x:Str)(st:Stmt)(ps:List Str):Prop:=∃f fd,qgv K mainGlobals x=some (some (.ref f))/\Fun K x x st f fd/\Binds K fd ps []
def GM(K:qed)(C:Addr)(m qual:Str)(st:Stmt)(ps:List Str):Prop:=∃f fd,Meth K C m f/\Fun K m qual st f fd/\Binds K fd ps []
structure MG(K:qed)(mg:Str->Option Value):Prop where
 m:∀x v,qgv K mainGlobals x=some (some v)->mg x=some v
 n:∀x,qgv K mainGlobals x=some none->mg x=none
section
variable{P:Program}{w:World}{K:qed}{mg:Str->Option Value}{base:Heap}
theorem GF.ok{x:Str}{st:Stmt}{N ps:List Str}{k:Nat}{sp:Sp}(G:GF K x st ps)(M:MG K mg)(S:zak N ps (zag st))(len:∀vs H Q E,sp vs H Q E->vs.length=ps.length)(hbody:∀(f:Addr) (cdv:Value) (A:Around) (outer:List Env) (s:Shared) (H:Hp) (vs:List V) (Q:VK) (E:XK),Room k (A.deeper (envOfC x (zag st) s.heap.objs.size f cdv))->sp vs H Q E ->
   ∃t,PSs (zu4 (CX1 P w) P w K mg base N x (zag st) f cdv A outer s H E) (zbh st) t/\t { nx:=λ_ H'=>Q .non H',rt:=Q } (zh1 N vs) H):Ok P w K mg base (k+1) x ps sp:=by
 obtain⟨f,fd,hn,F,hb⟩:=G
 exact⟨f,fd,M.m _ _ hn,F.kp,hb,F.okX S len (hbody f)⟩
theorem GM.ok{C:Addr}{m qual:Str}{st:Stmt}{N ps:List Str}{k:Nat}{sp:Sp}(G:GM K C m qual st ps)(c:Cls K C)(S:zak N ps (zag st))(len:∀vs H Q E,sp vs H Q E->vs.length=ps.length)(hbody:∀(f:Addr) (cdv:Value) (A:Around) (outer:List Env) (s:Shared) (H:Hp) (vs:List V) (Q:VK) (E:XK),Room k (A.deeper (envOfC qual (zag st) s.heap.objs.size f cdv))->sp vs H Q E ->
   ∃t,PSs (zu4 (CX1 P w) P w K mg base N qual (zag st) f cdv A outer s H E) (zbh st) t/\t { nx:=λ_ H'=>Q .non H',rt:=Q } (zh1 N vs) H):OkM P w K mg base (k+1) C m ps sp:=by
 obtain⟨f,fd,hm,F,hb⟩:=G
 exact⟨c,f,fd,hm,hb,F.okX S len (hbody f)⟩
theorem zbq{x:Str}{st:Stmt}{ps:List Str}{f:Addr}{oc:Value}{od an:Option Addr}{osl:Array (Option Value)}{kV doc pm cdv ct:Value}(a:qgv K mainGlobals x=some (some (.ref f)))(l:K.lookup f=some ⟨oc,od,.func (qfr x x (zbu st) (zbh st) (zag st) .none kV doc pm an cdv ct),osl⟩)(c:qgj K cdv x=true)(k:qfs K (.ref f)=true)(b:∀(kV doc pm:Value) (an:Option Addr) (cdv ct:Value) (us:List Value),us.length=ps.length->bindArgs (qfr x x (zbu st) (zbh st) (zag st) .none kV doc pm an cdv ct) ⟨us,[]⟩=pure (ps.zip us)):GF K x st ps:=
 ⟨f,_,a,zgh l c k,(zgh l c k).binds b⟩
theorem zdp{C:Addr}{m qual:Str}{st:Stmt}{ps:List Str}{f:Addr}{oc:Value}{od an:Option Addr}{osl:Array (Option Value)}{kV doc pm cdv ct:Value}(a:qes K (.ref C) m=some (some (.ref f)))(i:qhp K (.ref f)=true)(l:K.lookup f=some ⟨oc,od,.func (qfr m qual (zbu st) (zbh st) (zag st) .none kV doc pm an cdv ct),osl⟩)(c:qgj K cdv qual=true)(k:qfs K (.ref f)=true)(b:∀(kV doc pm:Value) (an:Option Addr) (cdv ct:Value) (us:List Value),us.length=ps.length->bindArgs (qfr m qual (zbu st) (zbh st) (zag st) .none kV doc pm an cdv ct) ⟨us,[]⟩=pure (ps.zip us)):GM K C m qual st ps:=
 ⟨f,_,⟨a,i,k⟩,zgh l c k,(zgh l c k).binds b⟩
end
def GFC(K:qed)(x:Str)(st:Stmt)(ps:List Str)(c P:Addr):Prop:=∃(f:Addr)(oc:Value)(od:Option Addr)(kV doc pm:Value)(an:Option Addr)(ct:Value)(osl:Array (Option Value)),qgv K mainGlobals x=some (some (.ref f)) ∧
 K.lookup f=some ⟨oc,od,.func (qfr x x (zbu st) (zbh st) (zag st) .none kV doc pm an (.ref c) ct),osl⟩/\qgj K (.ref c) x=true/\qfs K (.ref f)=true/\Binds K (qfr x x (zbu st) (zbh st) (zag st) .none kV doc pm an (.ref c) ct) ps []/\∀h:Heap,K.In h->PySem.W.CodeHd h c P
theorem GFC.ok{P:Program}{w:World}{K:qed}{mg:Str->Option Value}{base:Heap}{x:Str}{st:Stmt}{N ps:List Str}{k:Nat}{sp:Sp}{c Pt:Addr}(G:GFC K x st ps c Pt)(M:MG K mg)(S:zak N ps (zag st))(len:∀vs H Q E,sp vs H Q E->vs.length=ps.length)(hbody:∀(f:Addr) (A:Around) (outer:List Env) (s:Shared) (H:Hp) (vs:List V) (Q:VK) (E:XK),Room k (A.deeper (envOfC x (zag st) s.heap.objs.size f (.ref c)))->sp vs H Q E ->
   ∃t,PSs (zu4 (CX1 P w) P w K mg base N x (zag st) f (.ref c) A outer s H E) (zbh st) t/\t { nx:=λ_ H'=>Q .non H',rt:=Q } (zh1 N vs) H):Ok P w K mg base (k+1) x ps sp:=by
 obtain⟨f,oc,od,kV,doc,pm,an,ct,osl,hn,lk,hcd,kp,hb,_⟩:=G
 exact⟨f,_,M.m _ _ hn,kp,hb,fn_of lk hcd S len λA outer s H vs Q E hr hsp=>hbody f A outer s H vs Q E hr hsp⟩
theorem gfc_mk{K:qed}{x:Str}{st:Stmt}{ps:List Str}{f c P:Addr}{oc:Value}{od an odc:Option Addr}{osl slc:Array (Option Value)}{kV doc pm ct v0 v1 v2 v3 v4 v5 v6 v8 v12 v13 v14 v15 v16 v17:Value}{i7 i10:Int}{t7 t10 t18:Tok}{b9:Bool}{f18:Str}(a:qgv K mainGlobals x=some (some (.ref f)))(l:K.lookup f=some ⟨oc,od,.func (qfr x x (zbu st) (zbh st) (zag st) .none kV doc pm an (.ref c) ct),osl⟩)(cd:qgj K (.ref c) x=true)(k:qfs K (.ref f)=true)(d:K.lookup c=some ⟨.type "code",odc,.fields #[v0,v1,v2,v3,v4,v5,v6,.int i7 t7,v8,.bool b9,.int i10 t10,.ref P,v12,v13,v14,v15,v16,v17,.str f18 t18],slc⟩)(ne:(c == P)=false)(b:∀(kV doc pm:Value) (an:Option Addr) (cdv ct:Value) (us:List Value),us.length=ps.length->bindArgs (qfr x x (zbu st) (zbh st) (zag st) .none kV doc pm an cdv ct) ⟨us,[]⟩=pure (ps.zip us)):GFC K x st ps c P:=
 ⟨f,oc,od,kV,doc,pm,an,ct,osl,a,l,cd,k,.all (b kV doc pm an (.ref c) ct),λh X=>⟨_,_,_,_,_,_,_,_,_,X _ _ d,rfl,rfl,rfl,rfl,rfl,rfl,rfl,rfl,λz=>by rw[z]at ne;simp at ne⟩⟩
def xf(n k:Int):List (Str×V):=[("number",.int n),("at",.int k)]
def zaw(K:qed)(R:Addr)(E:XK)(n k:Int):Prop:=∀(C dx:Addr)(H':Hp),zvd K C R->H' dx=some (xdo dx (xf n k))->E (.ref C) (some dx) H'
def spX(C:Addr)(n:Int):Sp:=λvs H Q _=>∃(e:Addr)(k:Int),vs=[.ref e,.int k]/\H e=some (zzb C e)/\∀dx H',dx≠e->H' e=some (xob C dx e)->H' dx=some (xdo dx (xf n k))->Q .non H'
def spX0(C:Addr)(n:Int):Sp:=λvs H Q _=>∃(e:Addr),vs=[.ref e]/\H e=some (zzb C e)/\∀dx H',dx≠e->H' e=some (xob C dx e)->H' dx=some (xdo dx (xf n 0))->Q .non H'
section
variable(P:Program)(w:World)(K:qed)(mg:Str->Option Value)(base:Heap)
def OkX(R:Addr)(k:Nat)(x:Str)(n:Int):Prop:=∃C f fd,XMk K C R f/\mg x=some (.ref C)/\Binds K fd ["self","at"] []/\FnOk P w K mg base (CX1 P w) k f fd ["self","at"] (spX C n)
def OkX0(R:Addr)(k:Nat)(x:Str)(n:Int):Prop:=∃C f fd,XMk K C R f/\mg x=some (.ref C)/\Binds K fd ["self"] []/\FnOk P w K mg base (CX1 P w) k f fd ["self"] (spX0 C n)
end
section
variable{X:Cx}{k:Nat}{R:Addr}{E:XK}{x:Str}{p pos pos':Pos}{e:Expr}{te:TE}{n:Int}
def tRs(K:qed)(R:Addr)(E:XK)(n:Int)(te:TE):TS:=λ_ σ H=>te σ H λv _=>∃i,[v]=[V.int i]/\zaw K R E n i
theorem zng(O:OkX X.prog X.w X.K X.mg X.base R k x n)(hr:Room (k+1) X.A)(th:zb9 X E)(he:PE X e te)(hg:Gl X x:=by rfl)(hdb:(x == ("__debug__":Str))=false:=by decide)(hst:starEach [e] X.env=(false,eval e X.env)::starEach [] X.env:=by rfl) :
  PS X (.Raise (some (.Call (.Name x p) [e] [] pos)) none pos') (tRs X.K R E n te):=by
 obtain⟨C,f,fd,M,hm,hb,F⟩:=O
 intro pins s σ H D I h
 rw[arm_exec_Raise]
 refine wpAny_bind (wpAny_standAt ?_)
 refine zml M th hr.hd I (wpAny_bind (thn ?_ λv s1 hv=>wpAny_bind (wpAny_standAt (wpAny_pure hv))))
 refine wpAny_Call_Name_kw (zfj I hg hm ?_ hdb)
 have ha:PA X [e] (zzf te qca):=zaa he zae hst
 refine qgu (h₀:=X.base) I.ok.mod.kin M.cl.kp (thn (ha pos pins s σ H (λvs _=>∃i,vs=[V.int i]/\zaw X.K R E n i) I h) λus s1 ⟨vs,H1,I1,r,i,ev,q⟩=>⟨I1.kIn,?_⟩) hst rfl
 subst ev
 refine thn (zoy M F hr hb I1 r (by rw[qfp,<-r.length];show 1<=sizeLine;decide) (Q:=λx H2=>∃dx,H2 x=some (xob C dx x)/\E (.ref C) (some dx) (del H2 x)) λx hx=>⟨x,i,rfl,zad,λdx H' ne e1 e2=>⟨rfl,dx,e1,q C dx _ M.cl (by rw[zyh ne];exact e2)⟩⟩) λv s2 ⟨x',H2,e1,e2,I2,q2⟩=>?_
 obtain⟨f1,f2,f3⟩:=ztg I1 e2
 exact⟨x',H2,s2,e1,f1,f2,f3,rfl,I2,q2⟩
def tRs0(K:qed)(R:Addr)(E:XK)(n:Int):TS:=λ_ _ _=>zaw K R E n 0
theorem zkb(O:OkX0 X.prog X.w X.K X.mg X.base R k x n)(hr:Room (k+1) X.A)(th:zb9 X E)(hg:Gl X x:=by rfl)(hdb:(x == ("__debug__":Str))=false:=by decide) :
  PS X (.Raise (some (.Call (.Name x p) [] [] pos)) none pos') (tRs0 X.K R E n):=by
 obtain⟨C,f,fd,M,hm,hb,F⟩:=O
 intro pins s σ H D I h
 have q:zaw X.K R E n 0:=h
 refine zwk M F hr hg hm hb th hdb pins s σ H D I ?_
 exact⟨qf4 _,λx hx=>⟨x,rfl,zad,λdx H' ne e1 e2=>⟨rfl,dx,e1,q C dx _ M.cl (by rw[zyh ne];exact e2)⟩⟩⟩
end
theorem zaj{H:Hp}{p:Addr}(h:H p=none)(o:HO):Same H (upd H p o):=λb u q=>by rw[zah (zai q h)];exact q
theorem zay{H0 H:Hp}{p:Addr}(s:Same H0 H)(h:H0 p=none)(o:HO):Same H0 (upd H p o):=λb u q=>by rw[zah (zai q h)];exact s b u q
theorem Same.tup{K:qed}{H H':Hp}{a:Addr}{xs:List V}(e:Same H H')(h:SqT K H a xs):SqT K H' a xs:=by
 rcases h with (h|⟨o,h⟩)|h
 ·exact .inl (.inl (e _ _ h))
 ·exact .inl (.inr ⟨o,e _ _ h⟩)
 ·exact .inr h
theorem big{n:Nat}(h:n<=1000000):n<=sizeLine:=by rw[sizeLine_eq];lia
theorem zg4{n:Nat}(h:n<=1000000):n<sizeLine:=by rw[sizeLine_eq];lia
theorem zxu{K:qed}{a b:Addr}{xs ys:List Int}{te:TE}{vs:List Nat}{σ:St}{H1:Hp}{D:Addr}{Qd:Hp->Prop}(f:Int->Int->Int)(i j:Nat)(hD:H1 D=none)(ha:SqL K H1 a (xs.map V.int))(hb:SqL K H1 b (ys.map V.int))(hz:xs.length<=1000000)(hw:∀x y,zdc (((zdc σ vs).set i (some x)).set j (some y)) vs=zdc σ vs)(ht:∀x y H2 Q,x∈xs->y∈ys->Q (V.int (f x y)) H2->te (((zdc σ vs).set i (some (.int x))).set j (some (.int y))) H2 Q)(hq:∀H',Same H1 H'->H' D=some (.lst ((qeu f xs ys).map V.int))->Qd H') :
  ∃W:Nat->Nat->Hp->Prop,(∃m,W 0 m (upd H1 D (.lst [])))/\∀k m H,W k m H ->
   ((Itz K a b).stop k H/\Qd H)\/((Itz K a b).go k H/\∃Nx:Hp->Prop,(∀H',Nx H'->∃m',m'<m/\W (k+1) m' H')/\∀x H',(Itz K a b).yld k H x H'->gTup K 2 (zx6 (zi6 i) (zx6 (zi6 j) gNil)) x (zdc σ vs) H' λσ2 H2=>zdc σ2 vs=zdc σ vs/\tYes σ2 H2 λb H3=>
    if b=true then te σ2 H3 λy H4=>∃acc,H4 D=some (.lst acc)/\acc.length<sizeLine/\Nx (upd H4 D (.lst (acc++[y]))) else Nx H3):=by
 let L:=qeu f xs ys
 have hL:L.length=min xs.length ys.length:=by simp[L]
 refine⟨λk m H=>m=L.length - k/\k<=L.length/\Same H1 H/\H D=some (.lst ((L.take k).map V.int)),⟨L.length,by simp,qf4 _,zaj hD _,by rw[zad];rfl⟩,?_⟩
 rintro k m H ⟨rfl,hk,sm,hacc⟩
 have qa:=sm.seq ha
 have qb:=sm.seq hb
 by_cases hlt:k<L.length
 ·have hx:k<xs.length:=by lia
  have hy:k<ys.length:=by lia
  refine .inr ⟨⟨_,_,.int xs[k],.int ys[k],qa,qb,by simp[hx],by simp[hy]⟩,λH'=>Same H1 H'/\H' D=some (.lst ((L.take (k+1)).map V.int)),λH' p'=>⟨L.length - (k+1),by lia,rfl,hlt,p'⟩,λx H' y=>?_⟩
  obtain⟨T,x',y',rfl,hT,rfl,e1,e2⟩:=y
  have e1':=e1 _ qa
  have e2':=e2 _ qb
  rw[qeh,qe3 hx]at e1'
  rw[qeh,qe3 hy]at e2'
  obtain rfl:V.int xs[k]=x':=qen.inj e1'
  obtain rfl:V.int ys[k]=y':=qen.inj e2'
  have sT:Same H (upd H T (.tup [V.int xs[k],V.int ys[k]])):=zaj hT _
  refine⟨T,_,rfl,.inl (.inl zad),rfl,_,_,rfl,_,_,rfl,rfl,hw _ _,?_⟩
  refine ht _ _ _ _ (qhi hx) (qhi hy) ⟨_,sT _ _ hacc,?_,zay (sm.trans sT) hD _,?_⟩
  ·rw[qec,qe2];exact zg4 (by lia)
  ·rw[zad,qfn,qe3 hlt]
   simp[L]
 ·have e:k=L.length:=by lia
  subst e
  refine .inl ⟨⟨_,_,qa,qb,?_⟩,hq H sm ?_⟩
  ·rw[qec,qec];lia
  ·rw[hacc,qf0]
theorem znt{K:qed}{a:Addr}{xs:List Int}{te:TE}{vs:List Nat}{σ:St}{H1:Hp}{D:Addr}{Qd:Hp->Prop}(f:Int->Int)(i:Nat)(hD:H1 D=none)(ha:SqL K H1 a (xs.map V.int))(hz:xs.length<=1000000)(hw:∀x,zdc ((zdc σ vs).set i (some x)) vs=zdc σ vs)(ht:∀x H2 Q,x∈xs->Same H1 H2->Q (V.int (f x)) H2->te ((zdc σ vs).set i (some (.int x))) H2 Q)(hq:∀H',Same H1 H'->H' D=some (.lst ((xs.map f).map V.int))->Qd H') :
  ∃W:Nat->Nat->Hp->Prop,(∃m,W 0 m (upd H1 D (.lst [])))/\∀k m H,W k m H ->
   ((Itl K a).stop k H/\Qd H)\/((Itl K a).go k H/\∃Nx:Hp->Prop,(∀H',Nx H'->∃m',m'<m/\W (k+1) m' H')/\∀x H',(Itl K a).yld k H x H'->zi6 i x (zdc σ vs) H' λσ2 H2=>zdc σ2 vs=zdc σ vs/\tYes σ2 H2 λb H3=>
    if b=true then te σ2 H3 λy H4=>∃acc,H4 D=some (.lst acc)/\acc.length<sizeLine/\Nx (upd H4 D (.lst (acc++[y]))) else Nx H3):=by
 refine zfk (xs:=xs.map V.int) (λk H=>Same H1 H/\H D=some (.lst (((xs.map f).take k).map V.int))) ⟨zaj hD _,by rw[zad];rfl⟩ (λk H _ p=>p.1.seq ha) (λk x H hx ⟨sm,hacc⟩=>?_) λH ⟨sm,hacc⟩=>hq H sm ?_
 ·rw[qeh]at hx
  cases e:xs[k]? with
  |none=>rw[e]at hx;cases hx
  |some z=>
   rw[e]at hx
   obtain rfl:V.int z=x:=qen.inj hx
   refine⟨hw _,?_⟩
   refine ht z _ _ (qe7 e) sm ⟨_,hacc,?_,zay sm hD _,?_⟩
   ·have:=(qef.mp e).1
    rw[qec,qe2,qec];exact zg4 (by lia)
   ·rw[zad,qfn,qeh,e]
    simp
 ·rw[hacc,qec,qe5 (by simp)]
theorem zx7{K:qed}{a b:Addr}{xs ys:List V}{g:TG}{tb:TS}{D:qb1}{σ:St}{H:Hp}(Pv:Nat->St->Hp->Prop)(h0:Pv 0 σ H)(hl:∀i σ H,i<=min xs.length ys.length->Pv i σ H->SqL K H a xs/\SqL K H b ys)(hs:∀i x y T σ H,xs[i]?=some x->ys[i]?=some y->H T=none->Pv i σ H->g (.ref T) σ (upd H T (.tup [x,y])) λσ2 H2=>tb { D with nx:=Pv (i+1),ct:=Pv (i+1),bk:=D.nx } σ2 H2)(hd:∀σ H,Pv (min xs.length ys.length) σ H->D.nx σ H) :
  ∃W:Nat->Nat->St->Hp->Prop,(∃m,W 0 m σ H)/\∀i m σ H,W i m σ H ->
   ((Itz K a b).stop i H/\D.nx σ H)\/((Itz K a b).go i H/\∃N:St->Hp->Prop,(∀σ' H',N σ' H'->∃m',m'<m/\W (i+1) m' σ' H')/\∀x H',(Itz K a b).yld i H x H'->g x σ H' λσ2 H2=>tb { D with nx:=N,ct:=N,bk:=D.nx } σ2 H2):=by
 refine⟨λi m σ H=>m=min xs.length ys.length - i/\i<=min xs.length ys.length/\Pv i σ H,⟨_,rfl,qf4 _,h0⟩,?_⟩
 rintro i m σ H ⟨rfl,hi,p⟩
 obtain⟨qa,qb⟩:=hl i σ H hi p
 by_cases hlt:i<min xs.length ys.length
 ·have h1:i<xs.length:=by lia
  have h2:i<ys.length:=by lia
  refine .inr ⟨⟨xs,ys,xs[i],ys[i],qa,qb,by simp[h1],by simp[h2]⟩,Pv (i+1),λσ' H' p'=>⟨_,by lia,rfl,hlt,p'⟩,λx H' y=>?_⟩
  obtain⟨T,x',y',rfl,hT,rfl,e1,e2⟩:=y
  exact hs i x' y' T σ H (e1 _ qa) (e2 _ qb) hT p
 ·have e:i=min xs.length ys.length:=by lia
  subst e
  exact .inl ⟨⟨xs,ys,qa,qb,by lia⟩,hd σ H p⟩
theorem zjk{K:qed}{a:Addr}{xs:List V}{g:TG}{tb:TS}{D:qb1}{σ:St}{H:Hp}(Pv:Nat->St->Hp->Prop)(h0:Pv 0 σ H)(hl:∀i σ H,i<=xs.length->Pv i σ H->SqL K H a xs)(hs:∀i x T σ H,xs[i]?=some x->H T=none->Pv i σ H->g (.ref T) σ (upd H T (.tup [.int (i:Nat),x])) λσ2 H2=>tb { D with nx:=Pv (i+1),ct:=Pv (i+1),bk:=D.nx } σ2 H2)(hd:∀σ H,Pv xs.length σ H->D.nx σ H) :
  ∃W:Nat->Nat->St->Hp->Prop,(∃m,W 0 m σ H)/\∀i m σ H,W i m σ H ->
   ((Ite K a).stop i H/\D.nx σ H)\/((Ite K a).go i H/\∃N:St->Hp->Prop,(∀σ' H',N σ' H'->∃m',m'<m/\W (i+1) m' σ' H')/\∀x H',(Ite K a).yld i H x H'->g x σ H' λσ2 H2=>tb { D with nx:=N,ct:=N,bk:=D.nx } σ2 H2):=by
 refine⟨λi m σ H=>m=xs.length - i/\i<=xs.length/\Pv i σ H,⟨_,rfl,qf4 _,h0⟩,?_⟩
 rintro i m σ H ⟨rfl,hi,p⟩
 have qa:=hl i σ H hi p
 by_cases hlt:i<xs.length
 ·refine .inr ⟨⟨xs,xs[i],qa,by simp[hlt]⟩,Pv (i+1),λσ' H' p'=>⟨_,by lia,rfl,hlt,p'⟩,λx H' y=>?_⟩
  obtain⟨T,x',rfl,hT,rfl,e1⟩:=y
  exact hs i x' T σ H (e1 _ qa) hT p
 ·have e:i=xs.length:=by lia
  subst e
  exact .inl ⟨⟨xs,qa,qek _⟩,hd σ H p⟩
theorem ziz{X:Cx}(K:qed)(i j:Nat){a b:Str}{pa pb pos:Pos}{k:Nat}(hc:X.calm=true)(hN:X.N.Nodup)(h1:X.N[i]?=some a)(h2:X.N[j]?=some b)(l1:X.env.scope.names.lookup a=some .local)(l2:X.env.scope.names.lookup b=some .local)(hK:X.K=K:=by rfl) :
  PG X (.Tuple [.Name a pa,.Name b pb] k pos) (gTup K 2 (zx6 (zi6 i) (zx6 (zi6 j) gNil))):=by
 subst hK
 exact pg_tup (n:=2) hc (zss (zbj hN h1 (.inl l1) (.inr l1)) (zss (zbj hN h2 (.inl l2) (.inr l2)) qc2))
def SameT(H H':Hp):Prop:=∀b o,H b=some o->(∀ps,o≠.tbl ps)->H' b=some o
theorem Same.t{H H':Hp}(s:Same H H'):SameT H H':=λb o h _=>s b o h
theorem SameT.refl(H:Hp):SameT H H:=λ_ _ h _=>h
theorem SameT.trans{H H1 H2:Hp}(a:SameT H H1)(b:SameT H1 H2):SameT H H2:=λc o h n=>b c o (a c o h n) n
def zyp(c':Addr)(qual:Str):HO:=.ext λh=>h.CodeRec (.ref c') qual
def TabOk(P:Addr)(lp:Pos)(qual:Str)(H:Hp):Prop:=∃ps,H P=some (.tbl ps)/\TriplesOk ps.toList/\(codeAmong lp ps.toList=none\/∃c',codeAmong lp ps.toList=some (.ref c')/\H c'=some (zyp c' qual))
theorem TabOk.same{P:Addr}{lp:Pos}{qual:Str}{H H':Hp}(t:TabOk P lp qual H)(s:Same H H'):TabOk P lp qual H':=by
 obtain⟨ps,h1,h2,h3⟩:=t
 refine⟨ps,s _ _ h1,h2,?_⟩
 rcases h3 with h3|⟨c',h3,h4⟩
 ·exact .inl h3
 ·exact .inr ⟨c',h3,s _ _ h4⟩
theorem ns_fun{h:Heap}{a:Addr}{m m':Str->Option Value}(x:h.Ns a m)(y:h.Ns a m'):m=m':=by
 obtain⟨o,es,ep,e,d,_,f⟩:=x
 obtain⟨o',es',ep',e',d',_,f'⟩:=y
 rw[e]at e';cases e'
 rw[d]at d';cases d'
 funext z
 rw[<-f z,<-f' z]
section
variable{X:Cx}{pins:List (Addr×Obj)}{σ:St}{H:Hp}{s:Shared}
theorem Inv.ledger{h':Heap}{m:Str->Option Value}{t:Nat}(I:Inv X pins σ H s)(hm:s.heap.Ns X.env.locals m)(F:Fr X.base X.env.locals h' m)(N:News X.base X.env.locals h' (zlb X.base s.heap X.env.locals)):Inv X pins σ H { s with heap:=h',toks:=t }:=by
 have k:∀b o,b≠X.env.locals->s.heap.get? b=some o->h'.get? b=some o:=λb o hb e=>by
  cases q:X.base.get? b with
  |some u=>
   have:=I.bk b u q
   rw[e]at this;cases this
   exact F.keep b _ q
  |none=>exact (N (b,o) (zko hb q e)).1
 refine I.step (g':=s.gens) (d':=s.drawn) (ch:=[]) (λ_ z=>nomatch z) (λb o hL _ _ e _=>k b o hL e) (λb o hL _ _ e _=>⟨o.slots,k b o hL e⟩) (λ_ _ _ _ n=>n) (λb o _ e=>?_) (λ_ _ e=>e) (λ_ _ _ e=>e) (λb ps e=>⟨#[],by rw[e];simp⟩) (λm' hm'=>?_) (λb u e=>?_) I.bare
 ·by_cases hb:b=X.env.locals
  ·obtain⟨o',_,_,e',_⟩:=F.ns
   exact⟨o',by rw[hb];exact e'⟩
  ·exact⟨o,k b o hb e⟩
 ·rw[ns_fun hm' hm];exact F.ns
 ·refine (I.hok b u e).stay (λc v hc q=>k c v ?_ q) (λ_ q=>q) λ_ _ q=>q
  intro z
  have hf:=I.free
  rcases hc with hc|hc
  ·rw[<-z,hc,e]at hf;cases hf
  ·rw[<-z,hc]at hf;cases hf
abbrev lamScope:Scope:={ kind:=.function,names:=[("index",.local),("rest",.free),("abs",.globalImplicit)],isGenerator:=false,isCoroutine:=false,more:=[] }
abbrev zkw(p1 p2 p3 p4 p5:Pos):Expr:=.Call (.Name "abs" p1) [.Subscript (.Name "rest" p2) (.Name "index" p3) p4] [] p5
abbrev zkx(p:Pos):Arguments:={ posonlyargs:=[],args:=[{ arg:="index",annotation:=none,pos:=p }],vararg:=none,kwonlyargs:=[],kw_defaults:=[],kwarg:=none,defaults:=[] }
def zgw(xs:List Int)(n:Int):Int:=let z:=xs.getD n.toNat 0;if z<0 then -z else z
theorem zs8{pa p1 p2 p3 p4 p5:Pos}{qual:Str}{pm ctv:Value}{c' q a l cr:Addr}{xs ns:List Int}{clos:List (Str×Addr)}{k:Nat}{Q:VK}(hr:Room k X.A)(I:Inv X pins σ H s)(hab:X.mg "abs"=none)(hq:s.heap.get? q=some (PySem.W.kla_obj "<lambda>" qual (zkx pa) (zkw p1 p2 p3 p4 p5) lamScope clos pm c' ctv))(hqL:q≠X.env.locals)(hcd:s.heap.CodeRec (.ref c') qual)(hcL:c'≠X.env.locals)(hcl:clos.lookup ("rest":Str)=some cr)(hcell:s.heap.IsCell cr (some (.ref a)))(hcrL:cr≠X.env.locals)(ha:H a=some (.lst (xs.map V.int)))(hl:H l=some (.lst (ns.map V.int)))(hne:0<ns.length)(hb:∀n∈ns,0<=n/\n<xs.length)(hQ:∀(i:Nat) (n:Int),ns[i]?=some n->(∀j m,ns[j]?=some m->zgw xs n<=zgw xs m/\(j<i->zgw xs n<zgw xs m))->Q (.int n) H) :
  wpAny (model X.prog X.w) X.A (call (.builtin "min") [.ref l] [(Str.ofString "key",.ref q)]) (EP X pins σ Q) X.xe s:=by
 obtain⟨m,hn,hlk⟩:=id I.loc
 have F:Fr X.base X.env.locals s.heap m:=⟨hn,I.bk,qfq I.ok.bsz I.ok.above⟩
 obtain⟨lz,lits,ln,lr,lo⟩:=I.hok l _ hl
 obtain⟨az,aits,an,ar,ao⟩:=I.hok a _ ha
 have lL:l≠X.env.locals:=λz=>by have:=I.free;rw[<-z,hl]at this;cases this
 have aL:a≠X.env.locals:=λz=>by have:=I.free;rw[<-z,ha]at this;cases this
 have kp:∀h,Fr X.base X.env.locals h m->∀own,News X.base X.env.locals h (zlb X.base s.heap X.env.locals++own)->∀b o,b≠X.env.locals->s.heap.get? b=some o->h.get? b=some o:=λh F' own N b o hb' e=>by
  cases z:X.base.get? b with
  |some u=>
   have:=I.bk b u z
   rw[e]at this;cases this
   exact F'.keep b _ z
  |none=>exact (N (b,o) (qft _ (zko hb' z e))).1
 have hlen:ns.length=lits.length:=by have:=lr.length;rwa [qec]at this
 have alen:xs.length=aits.length:=by have:=ar.length;rwa [qec]at this
 refine kmk_min (λi=>zgw xs (ns.getD i 0)) (vs:=lits) hr.hd F qaq (λh F' N=>?_) (by lia) (λi v hv h tk own F' N'=>?_) (λi v h' tk' hv hbest F' N'=>?_)
 ·exact⟨_,kp h F' [] (by rw[qfe];exact N) l _ lL lo,rfl,_,rfl⟩
 ·
  have hi:i<ns.length:=by have:=(qef.mp hv).1;lia
  obtain⟨u,hu,ru⟩:=lr.get (i:=i) (x:=.int ns[i]) (by rw[qeh,qe3 hi];rfl)
  rw[hv]at hu;cases hu
  obtain⟨t,rfl⟩:=ru
  have K:=kp h F' own N'
  obtain⟨b0,b1⟩:=hb ns[i] (qhi hi)
  obtain⟨cc,oc,vsc,tc,e1,e2,e3,e4⟩:=hcd
  cases e1
  have hcd':h.CodeRec (.ref c') qual:=⟨c',oc,vsc,tc,rfl,K _ _ hcL e2,e3,e4⟩
  refine wpAny_call (PySem.W.kla_callFunE (by exact hr.depth) (K _ _ hqL hq) rfl rfl rfl rfl hcd' ?_)
  rw[show bindArgs (PySem.W.kla_fn "<lambda>" qual (zkx pa) (zkw p1 p2 p3 p4 p5) lamScope clos pm (.ref c') ctv) ⟨[.int ns[i] t],[]⟩=pure [(("index":Str),.int ns[i] t)] from rfl]
  refine wpAny_pure (wpAny_newFunctionEnv (show ∀x∈lamScope.names,x.2≠NameKind.cell from by decide) (by intro x hx;rw[qew.mp hx];rfl) (λh₁ hns hsb=>⟨?_,?_⟩) rfl)
  ·have kk:∀b o,h.get? b=some o->h₁.get? b=some o:=λb o e=>(hsb.2 b (qe9 (Heap.lt_size e))).trans (Heap.get?_push_of_some _ e)
   exact I.ok.mod.nolimit.keeps λb o e=>kk b o (F'.keep b o e)
  ·have kk:∀b o,h.get? b=some o->h₁.get? b=some o:=λb o e=>(hsb.2 b (qe9 (Heap.lt_size e))).trans (Heap.get?_push_of_some _ e)
   obtain⟨mb,g1,g2⟩:=I.mod.blt
   have gk:∀b o,X.base.get? b=some o->h₁.get? b=some o:=λb o e=>kk b o (F'.keep b o e)
   refine PySem.W.kla_codeExpr ?_
   refine wpAny_Call_Name_kw (Calls.Name_function_global rfl rfl (Calls.loadGlobal_builtin (I.mod.glob.keeps gk) hab (g1.keeps gk) ((g2 "abs" (by decide)).trans (show bootBuiltins "abs"=some (.builtin "abs") from by decide +kernel)) ?_))
   refine PyProof.Rows.callWith_builtin1 (Calls.spliced_cons (Subscript_ ?_))
   obtain⟨ocr,hcr,dcr⟩:=hcell
   refine wpAny_Name (wpAny_loadName_free rfl rfl hcl (v:=.ref a) ⟨ocr,kk _ _ (K _ _ hcrL hcr),dcr⟩ ?_) (by decide)
   refine wpAny_Name (wpAny_loadName_local rfl rfl hns (v:=.int ns[i] t) rfl ?_) (by decide)
   obtain⟨ux,hux,rux⟩:=ar.get (i:=ns[i].toNat) (x:=.int (xs.getD ns[i].toNat 0)) (by
    have:ns[i].toNat<xs.length:=by lia
    rw[qeh,qe3 this];simp[this])
   obtain⟨tx,rfl⟩:=rux
   have ao':h₁.get? a=some { cls:=.type "list",data:=.seq aits.toArray an }:=kk _ _ (K _ _ aL ao)
   have hsz:xs.length<=sizeLine:=by have:=az;rwa [qec]at this
   have h24:sizeLine=16777216:=sizeLine_eq
   refine item_listR (items:=aits.toArray) ⟨_,ao',rfl,_,rfl⟩ b0 (by lia) (x:=.int (xs.getD ns[i].toNat 0) tx) (by simpa using hux) ?_
   refine Calls.spliced_nil (call_abs_int λu2 tk2=>?_)
   refine⟨h₁,tk2,u2,rfl,?_,⟨?_,gk,F'.above⟩,λp hp=>⟨kk _ _ (N' p hp).1,(N' p hp).2⟩⟩
   ·have:ns.getD i 0=ns[i]:=by simp[hi]
    rw[this]
    rfl
   ·obtain⟨oL,es,ep,eL,r⟩:=F'.ns
    exact⟨oL,es,ep,kk _ _ eL,r⟩
 ·have hi:i<ns.length:=by have:=(qef.mp hv).1;lia
  obtain⟨u,hu,ru⟩:=lr.get (i:=i) (x:=.int ns[i]) (by rw[qeh,qe3 hi];rfl)
  rw[hv]at hu;cases hu
  refine⟨.int ns[i],H,Inv.ledger I hn F' N',ru,hQ i ns[i] (qe3 hi) λj mm hj=>?_⟩
  obtain⟨hj1,hj2⟩:=qef.mp hj
  have:=hbest j (by lia)
  have g1:ns.getD i 0=ns[i]:=by simp[hi]
  have g2:ns.getD j 0=mm:=by simp[hj1,hj2]
  rw[g1,g2]at this
  exact this
end
theorem zis{a b:Int}{t u:Tok}{c:Value}:∀l:List Value,TriplesOk l->TriplesOk (l++[.int a t,.int b u,c])
 |[],_=>trivial
 |.int _ _::.int _ _::_::rest,h=>zis rest h
section
variable{X:Cx}{pins:List (Addr×Obj)}{σ:St}{H:Hp}{s:Shared}
theorem Inv.table{P c':Addr}{ps more:Array Value}{qual:Str}{h':Heap}{o:Obj}{t:Nat}(I:Inv X pins σ H s)(hP:H P=some (.tbl ps))(hx:Heap.ExtBut P s.heap h')(hge:s.heap.objs.size<=c')(hrec:h'.CodeRec (.ref c') qual)(htb:h'.get? P=some (PySem.W.tabObj (ps++more))):Inv X pins σ (upd (upd H P (.tbl (ps++more))) c' (zyp c' qual)) { s with heap:=h'.push o,toks:=t }:=by
 have hc:H c'=none:=I.hok.fresh hge
 have hcP:P≠c':=zai hP hc
 have k:∀b u,b≠P->s.heap.get? b=some u->(h'.push o).get? b=some u:=λb u hb e=>Heap.get?_push_of_some _ (hx b u hb e)
 have ne:∀b u,s.heap.get? b=some u->b≠c':=λb u e=>qe9 (qep (Heap.lt_size e) hge)
 have kt:∀b u,H b=some u->(∀ps,u≠.tbl ps)->(upd (upd H P (.tbl (ps++more))) c' (zyp c' qual)) b=some u:=λb u e n=>by
  rw[zah (zai e hc),zah (λz=>by rw[z,hP]at e;cases e;exact n _ rfl)];exact e
 refine I.un (t':=t) ⟨λb u e n _ _=>k b u (λz=>by rw[z,hP]at n;cases n) e,λb u e n _ _=>⟨u.slots,k b u (λz=>by rw[z,hP]at n;cases n) e⟩,λb u e n _=>?_,λb u e _=>?_,λb xs e=>kt _ _ e (λ_ z=>nomatch z),λb ob u e=>kt _ _ e (λ_ z=>nomatch z),λb qs e=>?_⟩ λb u e=>?_
 ·rw[zah (ne b u e),zah (λz=>by rw[z,hP]at n;cases n)];exact n
 ·by_cases hb:b=P
  ·exact⟨_,by rw[hb];exact Heap.get?_push_of_some _ htb⟩
  ·exact⟨u,k b u hb e⟩
 ·by_cases hb:b=P
  ·subst hb
   rw[hP]at e;cases e
   exact⟨more,by rw[zah hcP,zad]⟩
  ·exact⟨#[],by rw[zah (zai e hc),zah hb,e];simp⟩
 ·by_cases hb:b=c'
  ·subst hb
   rw[zad]at e;cases e
   obtain⟨c2,oc,vs,tc,e1,e2,e3,e4⟩:=hrec
   cases e1
   exact⟨⟨_,oc,vs,tc,rfl,Heap.get?_push_of_some _ e2,e3,e4⟩,⟨oc,Heap.get?_push_of_some _ e2⟩,λh1 h2 ⟨c3,oc,vs,tc,e1,e2,e3,e4⟩ kk=>by cases e1;exact⟨_,oc,vs,tc,rfl,kk _ e2,e3,e4⟩⟩
  ·rw[zah hb]at e
   by_cases hbP:b=P
   ·subst hbP
    rw[zad]at e;cases e
    exact Heap.get?_push_of_some _ htb
   ·rw[zah hbP]at e
    refine (I.hok b u e).stay (λc v hc' q=>k c v ?_ q) (λc z=>kt _ _ z (λ_ z=>nomatch z)) λc xs z=>kt _ _ z (λ_ z=>nomatch z)
    intro z
    rcases hc' with hc'|hc'
    ·exact hbP (hc'▸z)
    ·rw[z,hP]at hc';cases hc'
end
def tMK(P:Addr)(lp:Pos)(qual:Str):TE:=λσ H Q=>∃(a l:Addr)(xs ns:List Int),σ[0]?=some (some (.ref a))/\σ[1]?=some (some (.ref l))/\H a=some (.lst (xs.map V.int))/\H l=some (.lst (ns.map V.int))/\0<ns.length/\(∀n∈ns,0<=n/\n<xs.length)/\TabOk P lp qual H ∧
 ∀(i:Nat)(n:Int)(H':Hp),ns[i]?=some n->(∀j m,ns[j]?=some m->zgw xs n<=zgw xs m/\(j<i->zgw xs n<zgw xs m))->SameT H H'->TabOk P lp qual H'->Q (.int n) H'
theorem zws{X:Cx}{c P:Addr}{k:Nat}{qual:Str}{p pi pa p1 p2 p3 p4 p5 lpos kpos pos:Pos}(hcode:X.env.code=.ref c)(C:PySem.W.CodeHd X.base c P)(hB:X.base.BuiltinsAt X.mg P)(hr:Room k X.A)(hgm:Gl X "min")(hmin:X.mg "min"=none)(hab:X.mg "abs"=none)(h0:X.N[0]?=some ("rest":Str))(k0:X.env.scope.names.lookup ("rest":Str)=some .cell)(h1:X.N[1]?=some ("indexes":Str))(k1:X.env.scope.names.lookup ("indexes":Str)=some .local)(hqual:X.env.qual++"<lambda>"=qual) :
  PE X (.Call (.Name "min" p) [.Name "indexes" pi] [⟨some "key",.Lambda (zkx pa) (zkw p1 p2 p3 p4 p5) lamScope lpos,kpos⟩] pos) (tMK P lpos qual):=by
 intro pins s σ H Q I h
 obtain⟨a,l,xs,ns,s0,s1,ha,hl,hne,hb,⟨ps,hP,tp,tc⟩,q⟩:=h
 refine wpAny_Call_Name_kw (zho I hgm hmin (show bootBuiltins "min"=some (.builtin "min") from by decide +kernel) ?_)
 have pa1:PA X [.Name "indexes" pi] (zzf (tVar 1) qca):=zaa (qbm h1 (.inl k1)) zae
 refine PyProof.Rows.callWith_kw (thn (pa1 pos pins s σ H (λvs H1=>vs=[.ref l]/\H1=H) I ⟨_,s1,rfl,rfl⟩) λus s2 ⟨vs,H1,I1,r,ev,eH⟩=>?_)
 subst ev eH
 obtain rfl:us=[.ref l]:=by
  cases r with
  |cons r rr=>cases rr;cases r;rfl
 refine PyProof.Rows.kws_cons (PySem.W.kla_eval rfl ?_)
 rw[hqual]
 obtain⟨m,hn,hlk⟩:=id I1.loc
 obtain⟨u,ru,lu⟩:=hlk 0 "rest" _ h0 s0 (.inr (.inl k0))
 obtain rfl:u=Value.ref a:=ru
 have hcellE:∃cr,X.env.cells.lookup ("rest":Str)=some cr/\s2.heap.IsCell cr (some (.ref a)):=by
  rcases lu with ⟨z,_⟩|⟨_,cr,e1,e2⟩
  ·have z:X.env.scope.names.lookup ("rest":Str)=some .local:=z
   rw[k0]at z;cases z
  ·exact⟨cr,e1,e2⟩
 obtain⟨cr,hcr,hcell⟩:=hcellE
 have hcrL:cr≠X.env.locals:=I1.cne _ _ hcr
 have hfree:∀y∈lamScope.names,y.2=.free->∃c,X.env.cells.lookup y.1=some c:=λy hy e=>by
  rcases qer.mp hy with rfl|hy
  ·cases e
  ·rcases qer.mp hy with rfl|hy
   ·exact⟨cr,hcr⟩
   ·rw[qew.mp hy]at e;cases e
 have hclos:=zii hfree
 have hlook:(za1 X.env.cells lamScope.names []).lookup ("rest":Str)=some cr:=by
  simp only[za1,hcr]
  rfl
 have hbs:s2.heap.BuiltinsAt X.mg P:=by
  obtain⟨bm,o,b1,b2,b3,b4,b5,b6⟩:=hB
  exact⟨bm,o,b1,b2,b3,b4,I1.bk _ _ b5,b6⟩
 have hgs:s2.heap.Ns mainGlobals X.mg:=I1.mod.glob.keeps I1.bk
 have hPo:s2.heap.get? P=some (PySem.W.tabObj ps):=I1.hok P _ hP
 have hgP:mainGlobals≠P:=λz=>by
  obtain⟨o,es,ep,e,hd,_⟩:=hgs
  rw[z,hPo]at e;cases e;cases hd
 have PL:P≠X.env.locals:=λz=>by have:=I1.free;rw[<-z,hP]at this;cases this
 have aL:∀{b:Addr}{o:HO},H1 b=some o->b≠X.env.locals:=λ{b o} e z=>by have:=I1.free;rw[<-z,e]at this;cases this
 rcases tc with tc|⟨c',tc,hc'⟩
 ·refine PySem.W.kla_makeFunction hclos I1.ok.glob hgs hcode (C.keeps I1.bk) hPo tp tc hgP hbs λc' ctv h' tk hx hge hlt hrec htb=>?_
  have I2:=Inv.table (o:=PySem.W.kla_obj "<lambda>" qual (zkx pa) (zkw p1 p2 p3 p4 p5) lamScope (za1 X.env.cells lamScope.names []) ((X.mg "__name__").getD .none) c' ctv) (t:=tk) I1 hP hx hge hrec htb
  have hc0:H1 c'=none:=I1.hok.fresh hge
  have sT:SameT H1 (upd (upd H1 P (.tbl (ps++#[rawInt lpos.line,rawInt lpos.col,.ref c']))) c' (zyp c' qual)):=λb o e n=>by
   rw[zah (zai e hc0),zah (λz=>by rw[z,hP]at e;cases e;exact n _ rfl)];exact e
  have tb:TabOk P lpos qual (upd (upd H1 P (.tbl (ps++#[rawInt lpos.line,rawInt lpos.col,.ref c']))) c' (zyp c' qual)):=
   ⟨_,by rw[zah (zai hP hc0),zad],by rw[qif];exact zis _ tp,.inr ⟨c',by rw[qif];exact codeAmong_snoc _ tp tc,zad⟩⟩
  refine PyProof.Rows.kws_nil ?_
  have lt2:X.env.locals<s2.heap.objs.size:=I1.lt
  refine zs8 (cr:=cr) (ctv:=ctv) hr I2 hab (Heap.get?_push_size _ rfl) (qgp (qjr (qep lt2 hge) hlt)) (hrec.push _) (qgp (qep lt2 hge)) hlook ?_ hcrL (sT _ _ ha (λ_ z=>nomatch z)) (sT _ _ hl (λ_ z=>nomatch z)) hne hb λi n h3 h4=>q i n _ h3 h4 sT tb
  obtain⟨oc,e1,e2⟩:=hcell
  exact⟨oc,Heap.get?_push_of_some _ (hx _ _ (λz=>by rw[z,hPo]at e1;cases e1;cases e2) e1),e2⟩
 ·have hcd:s2.heap.CodeRec (.ref c') qual:=(I1.hok c' _ hc').1
  refine PySem.W.kla_makeFunctionHit hclos I1.ok.glob hgs hcode (C.keeps I1.bk) hPo tp tc hbs λctv h' tk hk hsz=>?_
  have I2:=I1.kept (h':=h'.push { cls:=.type "function",data:=.func (PySem.W.kla_fn "<lambda>" qual (zkx pa) (zkw p1 p2 p3 p4 p5) lamScope (za1 X.env.cells lamScope.names []) ((X.mg "__name__").getD .none) (.ref c') ctv) }) (t':=tk) λb o e=>Heap.get?_push_of_some _ (hk b o e)
  refine PyProof.Rows.kws_nil ?_
  refine zs8 (cr:=cr) (ctv:=ctv) hr I2 hab (Heap.get?_push_size _ rfl) (qgp (qep I1.lt hsz)) (hcd.keeps λb o e=>Heap.get?_push_of_some _ (hk b o e)) (aL hc') hlook ?_ hcrL ha hl hne hb λi n h3 h4=>q i n _ h3 h4 (SameT.refl _) ⟨ps,hP,tp,.inr ⟨c',tc,hc'⟩⟩
  obtain⟨oc,e1,e2⟩:=hcell
  exact⟨oc,Heap.get?_push_of_some _ (hk _ _ e1),e2⟩
end L2
namespace PySem
open Sem (wp)
abbrev zc3(h:Heap)(z TI TO:Addr)(f0:Value)(f1:Bool):Prop:=
 h.get? z=some { cls:=.type "zip",dict:=none,data:=.fields #[f0,.bool f1,.bool false,.ref TI,.ref TO],slots:=#[] }
abbrev ziS1(h:Heap)(l1:Addr):Heap:=h.push { cls:=.type "list_iterator",data:=.fields #[.ref l1,.int 0 0] }
abbrev ziS2(h:Heap)(l1:Addr)(x:Str)(t:Tok):Heap:=(ziS1 h l1).push { cls:=.type "str_ascii_iterator",data:=.fields #[.str x t,.int 0 0] }
abbrev ziS3(h:Heap)(l1:Addr)(x:Str)(t:Tok):Heap:=(ziS2 h l1 x t).push { cls:=.type "tuple",data:=.seq #[.ref h.objs.size,.ref (ziS1 h l1).objs.size] }
abbrev ziS4(h:Heap)(l1:Addr)(x:Str)(t:Tok):Heap:=(ziS3 h l1 x t).push { cls:=.type "tuple",data:=.seq #[.none,.none] }
abbrev qb3(h:Heap)(l1:Addr)(x:Str)(t:Tok):Heap:=(ziS4 h l1 x t).push { cls:=.type "zip",data:=.fields #[.none,.bool false,.bool false,.ref (ziS2 h l1 x t).objs.size,.ref (ziS3 h l1 x t).objs.size] }
theorem zlx(l1:Addr)(xs:Array Value)(x:Str)(t:Tok)(ha:x.cps.all (·<128)=true) :
  Meets (Builtin.«zip.__new__» ⟨[.type "zip",.ref l1,.str x t],[]⟩) (λ_ R s=>s.heap.IsList l1 xs ∧
   R (.ok (.ret (.ref (ziS4 s.heap l1 x t).objs.size))) { s with heap:=qb3 s.heap l1 x t }):=
 .of_wp λprog w A R s h=>by
  obtain⟨hp,g,d,tk,os⟩:=s;obtain⟨hl1,h⟩:=h
  have hsub:=sub_zip
  have hL1:Heap.IsList (Shared.heap ⟨hp,g,d,tk,os⟩) l1 xs:=hl1
  unfold Builtin.«zip.__new__»
  iterate 12 (first|(with_reducible apply wpAny_pyIter_ascii ha)|(with_reducible apply wpAny_pyIter_list hL1)|wp_step)
  unfold Builtin.SmallTypes.iterAll
  refine wpAny_bind ?_
  simp only[qhv,qhf]
  refine wpAny_bind (wpAny_bind (wpAny_holding (wpAny_pyIter_list hL1 (wpAny_pure ?_))))
  refine wpAny_bind (wpAny_bind (wpAny_holding (wpAny_pyIter_ascii ha (wpAny_pure (wpAny_pure (wpAny_pure ?_))))))
  refine wpAny_bind (wpAny_newTuple ?_ (by show 2<=sizeLine;decide))
  refine wpAny_bind (wpAny_newTuple ?_ (by show 2<=sizeLine;decide))
  refine wpAny_bind ?_
  show wpAny _ _ (newObj (.type "zip") (.fields #[.none,.bool false,.bool false,_,_])) _ _ _
  refine wpAny_newObj_type ?_ (by first|(show 5<=sizeLine;decide)|trivial|size_fits)
  exact wpAny_pure ⟨_,rfl,h⟩
section
variable{prog:Program}{w:World}{A:Around}{E:Value->Shared->Prop}{s:Shared}
theorem zu6{l1:Addr}{xs:Array Value}{x:Str}{t:Tok}{Q:Value->Shared->Prop}(hl1:s.heap.IsList l1 xs)(ha:x.cps.all (·<128)=true)(h:∀h',zc3 h' (s.heap.objs.size+4) (s.heap.objs.size+2) (s.heap.objs.size+3) .none false->IsPair h' (s.heap.objs.size+2) (.ref s.heap.objs.size) (.ref (s.heap.objs.size+1)) ->
   IsPair h' (s.heap.objs.size+3) .none .none->h'.IsListIter s.heap.objs.size l1 0->h'.IsStrIter (s.heap.objs.size+1) "str_ascii_iterator" x t 0->h'.objs.size=s.heap.objs.size+5 ->
   (∀c o,s.heap.get? c=some o->h'.get? c=some o)->Q (.ref (s.heap.objs.size+4)) { s with heap:=h' }) :
  wpAny (model prog w) A (call (.type "zip") [.ref l1,.str x t]) Q E s:=by
 refine callType_new F.called_zip (by decide) (F.typeCall_zip_2 _ _) (F.newCall_zip_2 _ _) (λobj=>F.args_object_init_3 obj _ _) F.entry_zip_new
  (zlx l1 xs x t ha) ⟨hl1,?_⟩
 have z1:(ziS1 s.heap l1).objs.size=s.heap.objs.size+1:=Heap.size_push ..
 have z2:(ziS2 s.heap l1 x t).objs.size=s.heap.objs.size+2:=by rw[Heap.size_push,z1]
 have z3:(ziS3 s.heap l1 x t).objs.size=s.heap.objs.size+3:=by rw[Heap.size_push,z2]
 have z4:(ziS4 s.heap l1 x t).objs.size=s.heap.objs.size+4:=by rw[Heap.size_push,z3]
 have z5:(qb3 s.heap l1 x t).objs.size=s.heap.objs.size+5:=by rw[Heap.size_push,z4]
 have g5:(qb3 s.heap l1 x t).get? (ziS4 s.heap l1 x t).objs.size=some _:=Heap.get?_push_size _ rfl
 have g4:(qb3 s.heap l1 x t).get? (ziS3 s.heap l1 x t).objs.size=some _:=Heap.get?_push_of_some _ (Heap.get?_push_size _ rfl)
 have g3:(qb3 s.heap l1 x t).get? (ziS2 s.heap l1 x t).objs.size=some _:=Heap.get?_push_of_some _ (Heap.get?_push_of_some _ (Heap.get?_push_size _ rfl))
 have g2:(qb3 s.heap l1 x t).get? (ziS1 s.heap l1).objs.size=some _:=Heap.get?_push_of_some _ (Heap.get?_push_of_some _ (Heap.get?_push_of_some _ (Heap.get?_push_size _ rfl)))
 have g1:(qb3 s.heap l1 x t).get? s.heap.objs.size=some _:=Heap.get?_push_of_some _ (Heap.get?_push_of_some _ (Heap.get?_push_of_some _ (Heap.get?_push_of_some _ (Heap.get?_push_size _ rfl))))
 show _/\_
 rw[z2,z3,z4]at g5
 rw[z1,z2]at g3
 rw[z3]at g4
 rw[z1]at g2
 rw[z4]
 exact⟨⟨_,g5,rfl⟩,h _ g5 g3 g4 ⟨_,g1,rfl,rfl⟩ ⟨_,g2,rfl,rfl⟩ z5 λc o x=>
  Heap.get?_push_of_some _ (Heap.get?_push_of_some _ (Heap.get?_push_of_some _ (Heap.get?_push_of_some _ (Heap.get?_push_of_some _ x))))⟩
structure zm6(z TI TO i1 i2 l1:Addr):Prop where
 TIz:TI≠z
 TOz:TO≠z
 i1z:i1≠z
 i2z:i2≠z
 TITO:TI≠TO
 TIi1:TI≠i1
 TIi2:TI≠i2
 TOi1:TO≠i1
 TOi2:TO≠i2
 i12:i1≠i2
 l1z:l1≠z
 l1TO:l1≠TO
 l1i1:l1≠i1
 l1i2:l1≠i2
theorem ztu{z TI TO i1 i2 l1:Addr}{k1 k2 c:Nat}{xs:Array Value}{x a b:Value}{y:Str}{t:Tok}{Q:Option Value->Shared->Prop}(D:zm6 z TI TO i1 i2 l1)(hz:zc3 s.heap z TI TO .none false)(hTI:IsPair s.heap TI (.ref i1) (.ref i2))(hTO:IsPair s.heap TO a b)(h1:s.heap.IsListIter i1 l1 k1)(h2:s.heap.IsStrIter i2 "str_ascii_iterator" y t k2)(hl1:s.heap.IsList l1 xs)(hx:xs[k1]?=some x)(hy:y.cps[k2]?=some c)(hQ:∀h',zc3 h' z TI TO (rawInt s.heap.objs.size) false->h'.IsListIter i1 l1 (k1+1)->h'.IsStrIter i2 "str_ascii_iterator" y t (k2+1)->IsPair h' s.heap.objs.size x (.str ⟨#[c]⟩ s.toks)->h'.objs.size=s.heap.objs.size+1 ->
   (∀c o,c≠z->c≠TO->c≠i1->c≠i2->s.heap.get? c=some o->h'.get? c=some o)->Q (some (.ref s.heap.objs.size)) { s with heap:=h',toks:=s.toks+1 }) :
  wpAny (model prog w) A (pyNext (.ref z)) Q E s:=by
 have hT:s.TypeIs (.ref z) "zip":=⟨_,hz,rfl⟩
 unfold pyNext
 refine wpAny_bind (wpAny_attempt (wpAny_callSpecial?_slot (name:=Str.ofString "__next__") hT F.slot_zip_next
  (wpAny_call_entry F.slot_zip_next hT F.entry_zip_next ?_ (F.args_zip_next_1 _))))
 show wpAny _ _ (field (.ref z) 2 >>= _) _ _ _
 refine wpAny_bind (wpAny_field hz rfl (x:=.bool false) rfl ?_)
 show wpAny _ _ (field (.ref z) 3 >>= _) _ _ _
 refine wpAny_bind (wpAny_field hz rfl (x:=.ref TI) rfl ?_)
 refine wpAny_bind (wpAny_seqItems hTI rfl ?_)
 show wpAny _ _ (Builtin.SmallTypes.ownedTupleIsFree (.ref z) >>= _) _ _ _
 refine wpAny_bind ?_
 unfold Builtin.SmallTypes.ownedTupleIsFree
 refine wpAny_bind (wpAny_field hz rfl (x:=.none) rfl (wpAny_pure ?_))
 simp only[if_true]
 refine wpAny_bind (wpAny_rule ?_)
 refine wpAny_bind (wpAny_field hz rfl (x:=.ref TO) rfl ?_)
 refine wpAny_bind (wpAny_setField_rec hz (by simp) λh₁ hz₁ hs₁=>?_)
 replace hz₁:zc3 h₁ z TI TO .ellipsis false:=hz₁
 refine wpAny_bind ?_
 simp only[List.zipIdx_cons,List.zipIdx_nil,qhv,qhf]
 refine wpAny_bind (wpAny_bind (wpAny_onRaise ?_))
 show wpAny _ _ (Builtin.SmallTypes.nextOf (.ref i1) >>= _) _ _ _
 refine wpAny_bind (wpAny_nextOf_list_item (h1.extBut hs₁.extBut D.i1z) (hl1.extBut hs₁.extBut D.l1z) hx λh₂ h1₂ hs₂=>wpAny_pure ?_)
 have hTO₂:IsPair h₂ TO a b:=hs₂.extBut _ _ D.TOi1 (hs₁.extBut _ _ D.TOz hTO)
 refine wpAny_bind (wpAny_seqItems hTO₂ rfl ?_)
 refine wpAny_bind (wpAny_updateSeq_pair hTO₂ λh₃ hTO₃ hs₃=>?_)
 replace hTO₃:IsPair h₃ TO x b:=hTO₃
 refine wpAny_bind (wpAny_letGo (wpAny_pure ?_))
 refine wpAny_bind (wpAny_bind (wpAny_onRaise ?_))
 show wpAny _ _ (Builtin.SmallTypes.nextOf (.ref i2) >>= _) _ _ _
 refine wpAny_bind (wpAny_nextOf_ascii_item (((h2.extBut hs₁.extBut D.i2z).extBut hs₂.extBut D.i12.symm).extBut hs₃.extBut D.TOi2.symm) hy λh₄ h2₄ hs₄=>wpAny_pure ?_)
 have hTO₄:IsPair h₄ TO x b:=hs₄.extBut _ _ D.TOi2 hTO₃
 refine wpAny_bind (wpAny_seqItems hTO₄ rfl ?_)
 refine wpAny_bind (wpAny_updateSeq_pair hTO₄ λh₅ hTO₅ hs₅=>?_)
 replace hTO₅:IsPair h₅ TO x (.str ⟨#[c]⟩ s.toks):=hTO₅
 refine wpAny_bind (wpAny_letGo (wpAny_pure (wpAny_pure ?_)))
 refine wpAny_bind (wpAny_seqItems hTO₅ rfl ?_)
 refine wpAny_bind (wpAny_newTuple ?_)
 have hsz:h₅.objs.size=s.heap.objs.size:=by rw[hs₅.1,hs₄.1,hs₃.1,hs₂.1,hs₁.1]
 have hz₅:zc3 h₅ z TI TO .ellipsis false:=hs₅.extBut _ _ D.TOz.symm (hs₄.extBut _ _ D.i2z.symm (hs₃.extBut _ _ D.TOz.symm (hs₂.extBut _ _ D.i1z.symm hz₁)))
 have hk₅:∀c o,c≠z->c≠TO->c≠i1->c≠i2->s.heap.get? c=some o->h₅.get? c=some o:=λc o c1 c2 c3 c4 e=>
  hs₅.extBut _ _ c2 (hs₄.extBut _ _ c4 (hs₃.extBut _ _ c2 (hs₂.extBut _ _ c3 (hs₁.extBut _ _ c1 e))))
 have h1₅:h₅.IsListIter i1 l1 (k1+1):=((h1₂.extBut hs₃.extBut D.TOi1.symm).extBut hs₄.extBut D.i12).extBut hs₅.extBut D.TOi1.symm
 have h2₅:h₅.IsStrIter i2 "str_ascii_iterator" y t (k2+1):=h2₄.extBut hs₅.extBut D.TOi2.symm
 have hzlt:z<h₅.objs.size:=Heap.lt_size hz₅
 show wpAny _ _ (Builtin.SmallTypes.ownedTupleHandOut (.ref z) (.ref h₅.objs.size) >>= _) _ _ _
 refine wpAny_bind ?_
 unfold Builtin.SmallTypes.ownedTupleHandOut
 have hz₆:zc3 (h₅.push { cls:=.type "tuple",data:=.seq #[x,.str ⟨#[c]⟩ s.toks] }) z TI TO .ellipsis false:=Heap.get?_push_of_some _ hz₅
 refine wpAny_bind (wpAny_setField_rec hz₆ (by simp) λh₇ hz₇ hs₇=>?_)
 replace hz₇:zc3 h₇ z TI TO (rawInt h₅.objs.size) false:=hz₇
 refine wpAny_setField_rec hz₇ (by simp) λh₈ hz₈ hs₈=>?_
 replace hz₈:zc3 h₈ z TI TO (rawInt h₅.objs.size) false:=hz₈
 have up:∀c o,c≠z->h₅.get? c=some o->h₈.get? c=some o:=λc o c1 e=>hs₈.extBut _ _ c1 (hs₇.extBut _ _ c1 (Heap.get?_push_of_some _ e))
 have hT₈:IsPair h₈ h₅.objs.size x (.str ⟨#[c]⟩ s.toks):=hs₈.extBut _ _ (qgp hzlt) (hs₇.extBut _ _ (qgp hzlt) (Heap.get?_push_size _ rfl))
 have hz8:h₈.objs.size=h₅.objs.size+1:=by rw[hs₈.1,hs₇.1,Heap.size_push]
 rw[hsz]at hz₈ hT₈ hz8
 refine wpAny_pure ⟨_,rfl,?_⟩
 rw[hsz]
 exact wpAny_pure (hQ h₈ hz₈ (h1₅.at λo e=>up _ o D.i1z e) (by obtain⟨o,e,r⟩:=h2₅;exact⟨o,up _ o D.i2z e,r⟩) hT₈ hz8 λc o c1 c2 c3 c4 e=>up c o c1 (hk₅ c o c1 c2 c3 c4 e))
theorem zjo{z TI TO T:Addr}{f1:Bool}{oT:Obj}{Q:Bool->Shared->Prop}(hz:zc3 s.heap z TI TO (rawInt T) f1)(hT0:s.heap.get? T=some oT)(hQ:∀h₁,zc3 h₁ z TI TO (rawInt T) true->Heap.SameBut z s.heap h₁->Q false { s with heap:=h₁ }) :
  wpAny (model prog w) A (Builtin.SmallTypes.ownedTupleIsFree (.ref z)) Q E s:=by
 unfold Builtin.SmallTypes.ownedTupleIsFree
 refine wpAny_bind (wpAny_field hz rfl (x:=rawInt T) rfl ?_)
 show wpAny _ _ (loadIfAlive ((T:Int).toNat) >>= _) _ _ _
 rw[Int.toNat_natCast]
 refine wpAny_bind (PySem.W.kdx_alive hT0 ?_)
 simp only[Option.isNone_some,qe0,if_false]
 refine wpAny_bind (wpAny_field hz rfl (x:=.bool f1) rfl ?_)
 cases f1 with
 |true=>
  rw[if_neg (show ¬((Value.bool true != Value.bool true)=true) from qex)]
  exact wpAny_pure (hQ s.heap hz (Heap.SameBut.refl _ _))
 |false=>
  rw[if_pos (show (Value.bool false != Value.bool true)=true from rfl)]
  refine wpAny_bind (wpAny_setField_rec hz (by simp) λh₁ hz₁ hs₁=>?_)
  replace hz₁:zc3 h₁ z TI TO (rawInt T) true:=hz₁
  exact wpAny_pure (hQ h₁ hz₁ hs₁)
theorem zvk{z TI TO i1 i2 l1 T:Addr}{f1:Bool}{oT:Obj}{k1 k2 c:Nat}{xs:Array Value}{x:Value}{y:Str}{t:Tok}{Q:Option Value->Shared->Prop}(D:zm6 z TI TO i1 i2 l1)(hz:zc3 s.heap z TI TO (rawInt T) f1)(hT0:s.heap.get? T=some oT)(hTI:IsPair s.heap TI (.ref i1) (.ref i2))(h1:s.heap.IsListIter i1 l1 k1)(h2:s.heap.IsStrIter i2 "str_ascii_iterator" y t k2)(hl1:s.heap.IsList l1 xs)(hx:xs[k1]?=some x)(hy:y.cps[k2]?=some c)(hQ:∀h',zc3 h' z TI TO (rawInt T) true->h'.IsListIter i1 l1 (k1+1)->h'.IsStrIter i2 "str_ascii_iterator" y t (k2+1)->IsPair h' s.heap.objs.size x (.str ⟨#[c]⟩ s.toks)->h'.objs.size=s.heap.objs.size+1 ->
   (∀c o,c≠z->c≠i1->c≠i2->s.heap.get? c=some o->h'.get? c=some o)->Q (some (.ref s.heap.objs.size)) { s with heap:=h',toks:=s.toks+1 }) :
  wpAny (model prog w) A (pyNext (.ref z)) Q E s:=by
 have hT:s.TypeIs (.ref z) "zip":=⟨_,hz,rfl⟩
 unfold pyNext
 refine wpAny_bind (wpAny_attempt (wpAny_callSpecial?_slot (name:=Str.ofString "__next__") hT F.slot_zip_next
  (wpAny_call_entry F.slot_zip_next hT F.entry_zip_next ?_ (F.args_zip_next_1 _))))
 show wpAny _ _ (field (.ref z) 2 >>= _) _ _ _
 refine wpAny_bind (wpAny_field hz rfl (x:=.bool false) rfl ?_)
 show wpAny _ _ (field (.ref z) 3 >>= _) _ _ _
 refine wpAny_bind (wpAny_field hz rfl (x:=.ref TI) rfl ?_)
 refine wpAny_bind (wpAny_seqItems hTI rfl ?_)
 show wpAny _ _ (Builtin.SmallTypes.ownedTupleIsFree (.ref z) >>= _) _ _ _
 refine wpAny_bind (zjo hz hT0 λh₁ hz₁ hs₁=>?_)
 simp only[qe0,if_false]
 refine wpAny_bind ?_
 simp only[List.forIn_toArray,qhv,qhf]
 refine wpAny_bind (wpAny_bind (wpAny_holding ?_))
 show wpAny _ _ (Builtin.SmallTypes.nextOf (.ref i1) >>= _) _ _ _
 refine wpAny_bind (wpAny_nextOf_list_item (h1.extBut hs₁.extBut D.i1z) (hl1.extBut hs₁.extBut D.l1z) hx λh₂ h1₂ hs₂=>wpAny_pure (wpAny_pure ?_))
 refine wpAny_bind (wpAny_bind (wpAny_holding ?_))
 show wpAny _ _ (Builtin.SmallTypes.nextOf (.ref i2) >>= _) _ _ _
 refine wpAny_bind (wpAny_nextOf_ascii_item ((h2.extBut hs₁.extBut D.i2z).extBut hs₂.extBut D.i12.symm) hy λh₃ h2₃ hs₃=>wpAny_pure (wpAny_pure (wpAny_pure ?_)))
 refine wpAny_bind (wpAny_newTuple ?_ (by show 2<=sizeLine;decide))
 have hsz:h₃.objs.size=s.heap.objs.size:=by rw[hs₃.1,hs₂.1,hs₁.1]
 have hz₃:zc3 h₃ z TI TO (rawInt T) true:=hs₃.extBut _ _ D.i2z.symm (hs₂.extBut _ _ D.i1z.symm hz₁)
 have h1₃:h₃.IsListIter i1 l1 (k1+1):=h1₂.extBut hs₃.extBut D.i12
 have hk₃:∀c o,c≠z->c≠i1->c≠i2->s.heap.get? c=some o->h₃.get? c=some o:=λc o c1 c3 c4 e=>hs₃.extBut _ _ c4 (hs₂.extBut _ _ c3 (hs₁.extBut _ _ c1 e))
 have up:∀c o,h₃.get? c=some o->(h₃.push { cls:=.type "tuple",data:=.seq #[x,.str ⟨#[c]⟩ s.toks] }).get? c=some o:=λc o e=>Heap.get?_push_of_some _ e
 refine wpAny_pure ⟨_,rfl,?_⟩
 show wpAny _ _ (pure (some (Value.ref h₃.objs.size))) _ _ _
 rw[hsz]
 refine wpAny_pure (hQ _ (Heap.get?_push_of_some _ hz₃) (h1₃.at λo e=>Heap.get?_push_of_some _ e) (by obtain⟨o,e,r⟩:=h2₃;exact⟨o,Heap.get?_push_of_some _ e,r⟩) ?_ (by rw[Heap.size_push,hsz]) λc o c1 c3 c4 e=>Heap.get?_push_of_some _ (hk₃ c o c1 c3 c4 e))
 rw[<-hsz]
 exact Heap.get?_push_size _ rfl
theorem zy9{z TI TO i1 i2 l1 T:Addr}{f1:Bool}{oT:Obj}{k1:Nat}{xs:Array Value}{Q:Option Value->Shared->Prop}(hh:A.handled=none)(D:zm6 z TI TO i1 i2 l1)(hz:zc3 s.heap z TI TO (rawInt T) f1)(hT0:s.heap.get? T=some oT)(hTI:IsPair s.heap TI (.ref i1) (.ref i2))(h1:s.heap.IsListIter i1 l1 k1)(hl1:s.heap.IsList l1 xs)(hx:xs[k1]?=none)(hQ:∀h',(∀c o,c≠z->c≠i1->s.heap.get? c=some o->h'.get? c=some o)->Q none { s with heap:=h' }) :
  wpAny (model prog w) A (pyNext (.ref z)) Q E s:=by
 have hT:s.TypeIs (.ref z) "zip":=⟨_,hz,rfl⟩
 unfold pyNext
 refine wpAny_bind (wpAny_attempt (wpAny_callSpecial?_slot (name:=Str.ofString "__next__") hT F.slot_zip_next
  (wpAny_call_entry F.slot_zip_next hT F.entry_zip_next ?_ (F.args_zip_next_1 _))))
 show wpAny _ _ (field (.ref z) 2 >>= _) _ _ _
 refine wpAny_bind (wpAny_field hz rfl (x:=.bool false) rfl ?_)
 show wpAny _ _ (field (.ref z) 3 >>= _) _ _ _
 refine wpAny_bind (wpAny_field hz rfl (x:=.ref TI) rfl ?_)
 refine wpAny_bind (wpAny_seqItems hTI rfl ?_)
 show wpAny _ _ (Builtin.SmallTypes.ownedTupleIsFree (.ref z) >>= _) _ _ _
 refine wpAny_bind (zjo hz hT0 λh₁ hz₁ hs₁=>?_)
 simp only[qe0,if_false]
 refine wpAny_bind ?_
 simp only[List.forIn_toArray,qhv,qhf]
 refine wpAny_bind (wpAny_bind (wpAny_holding ?_))
 show wpAny _ _ (Builtin.SmallTypes.nextOf (.ref i1) >>= _) _ _ _
 refine wpAny_bind (wpAny_nextOf_list_end (A:=A.in1) hh (h1.extBut hs₁.extBut D.i1z) (hl1.extBut hs₁.extBut D.l1z) hx λh₂ e hs₂ he=>?_)
 obtain⟨o,ho,hc⟩:=he
 refine wpAny_bind (wpAny_isInstance (T:="StopIteration") (b:=true) ⟨o,ho,hc⟩ isSubtype_stop ?_)
 exact wpAny_pure (hQ _ λc o c1 c2 e=>hs₂ _ _ c2 (hs₁.extBut _ _ c1 e))
theorem zm8:typeLookup (.type "zip") "keys"=pure none:=am_miss_of_fast (by first|decide +kernel|rfl)
theorem zi5:typeLookup (.type "zip") "__getattr__"=pure none:=by rw[typeLookup_type,builtinLookup_eq_fast];kernel_rfl
theorem zey:entryFor table "zip.__getattribute__"=some Builtin.«object.__getattribute__»:=
 entryFor_alias (id':="object.__getattribute__") (by kernel_rfl) (by decide +kernel) (by decide +kernel) (by kernel_rfl)
theorem zdn(a:Addr)(fs:Array Value)(sl:Array (Option Value))(name:Str)(u:Tok)(hmiss:typeLookup (.type "zip") name=pure none)(hname:(["__module__","__name__","__qualname__","__doc__","__annotations__"]:List Str).contains name=false)(hsz:name.length+100<=sizeLine:=by size_fits) :
  Meets (Builtin.«object.__getattribute__» ⟨[.ref a,.str name u],[]⟩) (λA R s=>s.heap.get? a=some { cls:=.type "zip",dict:=none,data:=.fields fs,slots:=sl }/\raisesAttr (.ref a) name A R s):=
 Meets.of_wp λprog w A R s hs=>by
  obtain⟨hp,g,d,tk,os⟩:=s
  obtain⟨hx,hs⟩:=hs
  have hT:(⟨hp,g,d,tk,os⟩:Shared).TypeIs (.ref a) "zip":=⟨_,hx,rfl⟩
  unfold Builtin.«object.__getattribute__»
  repeat (any_goals (first|assumption|wp_step))
  simp only[hname,qe0,if_false]
  repeat (any_goals (first|assumption|wp_step))
  exact wpAny_raiseAttrError hs.1 hs.2 (attrMsg_fits (by decide +kernel) hsz)
theorem qau{s:Shared}{a:Addr}{fs:Array Value}{sl:Array (Option Value)}{Q:Option Value->Shared->Prop}(hx:s.heap.get? a=some { cls:=.type "zip",dict:=none,data:=.fields fs,slots:=sl })(hA:A.handled=none)(h:∀h' tk,(∀b ob,s.heap.get? b=some ob->h'.get? b=some ob)->Q none { s with heap:=h',toks:=tk }):wpAny (model prog w) A (getAttr? (.ref a) "keys") Q E s:=by
 obtain⟨hp,g,d,tk,os⟩:=s
 have hT:∀tk',(⟨hp,g,d,tk',os⟩:Shared).TypeIs (.ref a) "zip":=λ_=>⟨_,hx,rfl⟩
 have hmiss:=zm8
 have hname:(["__module__","__name__","__qualname__","__doc__","__annotations__"]:List Str).contains "keys"=false:=by decide +kernel
 have hsz:("keys":Str).length+100<=sizeLine:=by first|size_fits|decide +kernel
 have f1:=sub_AttributeError
 have f3:=qg3.lookup
 have f4:=qg3.bind (.ref a)
 have f5:=zi5
 unfold getAttr? getAttrBy? getAttrBy
 repeat (any_goals (first|assumption|exact hT _|((with_reducible show wpAny _ _ (call (Value.builtin "zip.__getattribute__") _ _) _ _ _);refine call_meets qg3 (hT _) zey (PySem.F.args_zip_getattribute_2 _ _) (zdn a fs sl "keys" _ hmiss hname hsz) ⟨hx,hA,λh' tk' e hx'=>?_⟩)|wp_step))
 obtain⟨t',u',he⟩:=hx'.there
 show wpAny _ _ (getattributeRaised _ _ _ _ _ _ _) _ _ _
 unfold getattributeRaised
 repeat (any_goals (first|assumption|wp_step))
 all_goals first|exact h _ _ hx'.keeps|(dsimp only;repeat (any_goals (first|assumption|exact h _ _ hx'.keeps|wp_step)))
end
end PySem
namespace L2
open PySem PySem.Spec PyProof.Rows
def zkv(q:Key×Nat):Key×V:=(q.1,.str ⟨#[q.2]⟩)
section
variable{prog:Program}{w:World}{A:Around}{E:Value->Shared->Prop}
theorem zof{R:Result->Shared->Prop}{S z T:Addr}{u val res:Value}{k:Key}{acc:List (Key×Value)}{ix:Int}{t:Tok}{s:Shared}(hk:znu k u=true)(hln:acc.length<=sizeLine)(hn:∀E',wpAny (model prog w) A.in1 (pyNext (.ref z)) (λv s1=>v=some (.ref T)/\IsTup s1.heap T #[u,val]/\s1.heap.DictOf (zbg prog w) S acc ∧
   ∀h2,h2.DictOf (zbg prog w) S (stored acc k val)->Heap.SameBut S s1.heap h2->codeAny (model prog w) A (.builtin "dict.update.loop" ⟨[.ref S,.ref z,.int (ix+1) 0,res],[]⟩) R { s1 with heap:=h2,toks:=s1.toks+1 }) E' s) :
  codeAny (model prog w) A (.builtin "dict.update.loop" ⟨[.ref S,.ref z,.int ix t,res],[]⟩) R s:=by
 refine codeAny_builtin zsc ?_
 rw[Around.under_plainId zg8 _]
 show wpAny _ A.in1 (pyNext (.ref z) >>= _) _ _ s
 refine wpAny_bind (thn (hn _) λv s1 ⟨ev,ht1,hm1,hrec⟩=>?_)
 subst ev
 obtain⟨o,ho,hc,n,hd⟩:=id ht1
 show wpAny _ A.in1 (holding [Value.ref T] _ >>= _) _ _ _
 refine wpAny_bind (wpAny_holding ?_)
 refine wpAny_bind (wpAny_tryCatch ?_)
 unfold Builtin.Dict.pairItems
 refine wpAny_bind (wpAny_typeOf (T:="tuple") ⟨o,ho,hc⟩ ?_)
 rw[if_pos (by first|decide|rfl|simp)]
 refine wpAny_bind (wpAny_seqItems ho hd (wpAny_pure ?_))
 show wpAny _ A.in1 (holding [u,val] (dictSet S u val)) _ _ _
 refine wpAny_holding (wpAny_dictSet_pairs (knd:=zbg prog w) (k:=k) hk hm1 (λh2 hm2 hs2=>?_) hln)
 exact wpAny_pure ⟨plainId_quiet zg8 _,hrec h2 hm2 hs2⟩
theorem zog{R:Result->Shared->Prop}{S z TI TO i1 i2 l T:Addr}{oT:Obj}{items:Array Value}{y:Str}{ty:Tok}{res:Value}(hh:A.handled=none)(D:zm6 z TI TO i1 i2 l)(hS:S≠z/\S≠TI/\S≠i1/\S≠i2/\S≠l/\S≠T)(hT:T≠z/\T≠i1/\T≠i2) :
  ∀(rest:List (Key×Nat))(i:Nat)(acc:List (Key×Value))(ix:Int)(t:Tok)(s:Shared)(f1:Bool),items.size=i+rest.length->acc.length+rest.length<=sizeLine ->
   (∀(j:Nat)(q:Key×Nat),rest[j]?=some q->∃u:Value,items[i+j]?=some u/\znu q.1 u=true/\y.cps[i+j]?=some q.2) ->
   zc3 s.heap z TI TO (rawInt T) f1->s.heap.get? T=some oT->IsPair s.heap TI (.ref i1) (.ref i2)->s.heap.IsListIter i1 l i->s.heap.IsStrIter i2 "str_ascii_iterator" y ty i->s.heap.IsList l items->s.heap.DictOf (zbg prog w) S acc ->
   (∀h' tk prs,KV (rest.map zkv) prs->h'.DictOf (zbg prog w) S (merged acc prs)->(∀b o,b≠S->b≠z->b≠i1->b≠i2->s.heap.get? b=some o->h'.get? b=some o)->R (.ok (.ret res)) { s with heap:=h',toks:=tk }) ->
   codeAny (model prog w) A (.builtin "dict.update.loop" ⟨[.ref S,.ref z,.int ix t,res],[]⟩) R s
 |[],i,acc,ix,t,s,f1,hsz,hln,ht,hz,hoT,hTI,h1,h2,hl,hm,hR=>by
  refine codeAny_builtin zsc ?_
  rw[Around.under_plainId zg8 _]
  show wpAny _ A.in1 (pyNext (.ref z) >>= _) _ _ s
  refine wpAny_bind (zy9 (A:=A.in1) hh D hz hoT hTI h1 hl (by simp at hsz;simp;lia) λh' hk=>?_)
  show wpAny _ A.in1 (Builtin.Dict.addKeywords S [] >>= _) _ _ _
  refine wpAny_bind (wpAny_pure (wpAny_pure ?_))
  exact hR h' s.toks [] .nil (hm.at λo e=>hk _ o hS.1 hS.2.2.1 e) λb o _ hb hb1 _ e=>hk b o hb hb1 e
 |q::rest,i,acc,ix,t,s,f1,hsz,hln,ht,hz,hoT,hTI,h1,h2,hl,hm,hR=>by
  obtain⟨u,hu,hk,hc⟩:=ht 0 q rfl
  rw[qeg]at hsz hln
  refine zof (T:=s.heap.objs.size) (u:=u) (val:=.str ⟨#[q.2]⟩ s.toks) (k:=q.1) (acc:=acc) hk (by lia) λE'=>?_
  have lt:∀{c o},s.heap.get? c=some o->c<s.heap.objs.size:=λe=>Heap.lt_size e
  refine zvk (A:=A.in1) D hz hoT hTI h1 h2 hl (by simpa using hu) (by simpa using hc) λh' z' a1 a2 hp hz' kk=>?_
  refine⟨rfl,⟨_,hp,rfl,_,rfl⟩,hm.at λo e=>kk _ o hS.1 hS.2.2.1 hS.2.2.2.1 e,λh2' hd2 hs2=>?_⟩
  have zz:∀{c:Addr}{o:Obj},c≠S->h'.get? c=some o->h2'.get? c=some o:=λhc e=>hs2.extBut _ _ hc e
  refine zog (items:=items) hh D hS hT rest (i+1) (stored acc q.1 (.str ⟨#[q.2]⟩ s.toks)) (ix+1) 0 _ true (by lia) ?_ (λj q' e=>?_) (zz hS.1.symm z') (zz hS.2.2.2.2.2.symm (kk _ _ hT.1 hT.2.1 hT.2.2 hoT)) (zz hS.2.1.symm (kk _ _ D.TIz D.TIi1 D.TIi2 hTI))
   (a1.at λo e=>zz hS.2.2.1.symm e) (by obtain⟨o,e,r⟩:=a2;exact⟨o,zz hS.2.2.2.1.symm e,r⟩) (hl.at λo e=>zz hS.2.2.2.2.1.symm (kk _ _ D.l1z D.l1i1 D.l1i2 e)) hd2 λh3 tk prs rel hd3 k3=>?_
  ·have z:=stored_length_le acc q.1 (.str ⟨#[q.2]⟩ s.toks)
   lia
  ·obtain⟨u',e1,e2,e3⟩:=ht (j+1) q' (by simpa using e)
   exact⟨u',by rw[show i+1+j=i+(j+1) by lia];exact e1,e2,by rw[show i+1+j=i+(j+1) by lia];exact e3⟩
  ·exact hR h3 tk ((q.1,.str ⟨#[q.2]⟩ s.toks)::prs) (.cons ⟨rfl,⟨_,rfl⟩⟩ rel) hd3 λb o b1 b2 b3 b4 e=>k3 b o b1 b2 b3 b4 (zz b1 (kk b o b2 b3 b4 e))
theorem zn1{s:Shared}{z TI TO i1 i2 l:Addr}{items:Array Value}{y:Str}{ty:Tok}{a b:Value}{prs:List (Key×Nat)}{Q:Value->Shared->Prop}(hh:A.handled=none)(D:zm6 z TI TO i1 i2 l)(hz:zc3 s.heap z TI TO .none false)(hTI:IsPair s.heap TI (.ref i1) (.ref i2))(hTO:IsPair s.heap TO a b)(h1:s.heap.IsListIter i1 l 0)(h2:s.heap.IsStrIter i2 "str_ascii_iterator" y ty 0)(hl:s.heap.IsList l items)(hsz:items.size=prs.length)(hpos:prs≠[])(hln:prs.length<=sizeLine)(ht:∀(j:Nat) (q:Key×Nat),prs[j]?=some q->∃u:Value,items[j]?=some u/\znu q.1 u=true/\y.cps[j]?=some q.2)(h:∀h' tk vs,KV (prs.map zkv) vs->h'.DictOf (zbg prog w) s.heap.objs.size (merged [] vs)->(∀b o,b≠z->b≠TO->b≠i1->b≠i2->s.heap.get? b=some o->h'.get? b=some o)->Q (.ref s.heap.objs.size) { s with heap:=h',toks:=tk }) :
  wpAny (model prog w) A (call (.type "dict") [.ref z]) Q E s:=by
 refine callType_codes (Q₁:=λobj s₁=>obj=.ref s.heap.objs.size/\s₁={ s with heap:=s.heap.push { cls:=.type "dict",data:=.dict #[] } }) PySem.F.kt_called_dict (PySem.F.kt_typeCall_dict_1 _) PySem.F.entry_dict_init (kt_code_dict_new _ ⟨rfl,rfl⟩) ?_
 rintro obj s₁ ⟨rfl,rfl⟩
 have hnew:(s.heap.push { cls:=.type "dict",data:=.dict #[] }).DictOf (zbg prog w) s.heap.objs.size []:=Heap.DictOf.new s.heap
 have k0:∀b o,s.heap.get? b=some o->(s.heap.push { cls:=.type "dict",data:=.dict #[] }).get? b=some o:=λb o e=>Heap.get?_push_of_some _ e
 refine⟨hnew.typeIs,PySem.F.args_dict_init_2 _ _,?_⟩
 unfold Builtin.«dict.__init__»
 refine wpAny_bind ?_
 unfold Builtin.Dict.selfAndRest
 refine wpAny_bind (wpAny_notOrdered_dict hnew.typeIs ?_)
 show wpAny _ _ (pure (s.heap.objs.size,[Value.ref z])) _ _ _
 refine wpAny_pure ?_
 show wpAny _ _ (Builtin.Dict.updateFrom "dict.__init__" s.heap.objs.size (.ref z) [] .none) _ _ _
 unfold Builtin.Dict.updateFrom
 refine wpAny_bind (wpAny_typeOf (T:="zip") ⟨_,k0 _ _ hz,rfl⟩ ?_)
 rw[if_pos (by first|decide|rfl|simp)]
 refine wpAny_bind (qau (k0 _ _ hz) hh λhA tk1 hk1=>?_)
 rw[if_pos (show (none:Option Value).isNone=true from rfl)]
 refine wpAny_bind (wpAny_rule ?_)
 have up:∀{b o},s.heap.get? b=some o->hA.get? b=some o:=λe=>hk1 _ _ (k0 _ _ e)
 refine wpAny_bind (wpAny_pyIter_zip (f0:=.none) (up hz) ?_)
 have lt:∀{c o},s.heap.get? c=some o->c≠s.heap.objs.size:=λe=>qe9 (Heap.lt_size e)
 obtain⟨oI1,eI1,rI1⟩:=id h1
 obtain⟨oI2,eI2,rI2⟩:=id h2
 obtain⟨oL,eL,rL⟩:=id hl
 have hS1:s.heap.objs.size<hA.objs.size:=by
  have e:(s.heap.push { cls:=.type "dict",data:=.dict #[] }).get? s.heap.objs.size=some { cls:=.type "dict",data:=.dict #[] }:=Heap.get?_push_size _ rfl
  exact Heap.lt_size (hk1 _ _ e)
 have key:codeAny (model prog w) A.in1 (.builtin "dict.update.loop" ⟨[.ref s.heap.objs.size,.ref z,rawInt 0,Value.none],[]⟩) (wants (λr s₂=>r=.none/\Q (.ref s.heap.objs.size) s₂) E) { s with heap:=hA,toks:=tk1 }:=by
  cases prs with
  |nil=>exact absurd rfl hpos
  |cons q rest=>
   obtain⟨u,hu,hk,hc⟩:=ht 0 q rfl
   rw[qeg]at hsz hln
   refine zof (A:=A.in1) (T:=hA.objs.size) (u:=u) (val:=.str ⟨#[q.2]⟩ tk1) (k:=q.1) (acc:=[]) hk (by show 0<=sizeLine;decide) λE'=>?_
   refine ztu (s:={ s with heap:=hA,toks:=tk1 }) D (up hz) (up hTI) (up hTO) (h1.at λo e=>up e) ⟨oI2,up eI2,rI2⟩ (hl.at λo e=>up e) hu hc λh' z' a1 a2 hp hz' kk=>?_
   refine⟨rfl,⟨_,hp,rfl,_,rfl⟩,(hnew.at λo e=>hk1 _ _ e).at λo e=>kk _ o (lt hz).symm (lt hTO).symm (lt eI1).symm (lt eI2).symm e,λh2' hd2 hs2=>?_⟩
   have ne:∀{c o},s.heap.get? c=some o->c≠hA.objs.size:=λe=>qe9 (qjr (Heap.lt_size e) hS1)
   have zz:∀{c:Addr}{o:Obj},c≠s.heap.objs.size->h'.get? c=some o->h2'.get? c=some o:=λhc e=>hs2.extBut _ _ hc e
   refine zog (A:=A.in1) (S:=s.heap.objs.size) (T:=hA.objs.size) (items:=items) hh D ⟨(lt hz).symm,(lt hTI).symm,(lt eI1).symm,(lt eI2).symm,(lt eL).symm,qe9 hS1⟩ ⟨(ne hz).symm,(ne eI1).symm,(ne eI2).symm⟩ rest 1 (stored [] q.1 (.str ⟨#[q.2]⟩ tk1)) 1 0 _ false
    (by lia) ?_ (λj q' e=>?_) (zz (lt hz) z') (zz (qgp hS1) hp) (zz (lt hTI) (kk _ _ D.TIz D.TITO D.TIi1 D.TIi2 (up hTI))) (a1.at λo e=>zz (lt eI1) e) (by obtain⟨o,e,r⟩:=a2;exact⟨o,zz (lt eI2) e,r⟩)
    (hl.at λo e=>zz (lt eL) (kk _ _ D.l1z D.l1TO D.l1i1 D.l1i2 (up e))) hd2 λh3 tk vs rel hd3 k3=>?_
   ·have z:=stored_length_le ([]:List (Key×Value)) q.1 (.str ⟨#[q.2]⟩ tk1)
    have:([]:List (Key×Value)).length=0:=rfl
    lia
   ·obtain⟨u',e1,e2,e3⟩:=ht (j+1) q' (by simpa using e)
    exact⟨u',by rw[qjb];exact e1,e2,by rw[qjb];exact e3⟩
   ·exact⟨rfl,h h3 tk ((q.1,.str ⟨#[q.2]⟩ tk1)::vs) (.cons ⟨rfl,⟨_,rfl⟩⟩ rel) hd3 λb o b1 b2 b3 b4 e=>k3 b o (lt e) b1 b3 b4 (zz (lt e) (kk b o b1 b2 b3 b4 (up e)))⟩
 first
  |exact wpAny_pure ⟨plainId_quiet zg8 _,key⟩
  |exact wpAny_bind (wpAny_pure (wpAny_pure ⟨plainId_quiet zg8 _,key⟩))
end
theorem zva:bootBuiltins "dict"=some (.type "dict"):=by decide +kernel
def zze(K:qed)(ta:TA):TE:=λσ H Q=>ta σ H λvs H1=>∃(a:Addr)(y:Str)(ks:List Key),vs=[.ref a,.str y]/\SqL K H1 a (ks.map kV)/\y.cps.all (·<128)=true/\ks.length=y.cps.size/\ks≠[] ∧
 ∀p,H1 p=none->Q (.ref p) (upd H1 p (.dK (zd2 [] ((ks.zip y.cps.toList).map zkv))))
theorem zue{X:Cx}{e e2:Expr}{ta:TA}{p p2 pos pos2:Pos}(hc:X.calm=true)(hg:Gl X "zip")(hm:X.mg "zip"=none)(hg2:Gl X "dict")(hm2:X.mg "dict"=none)(ha:PA X [e,e2] ta)(hs:starEach [e,e2] X.env=(false,eval e X.env)::starEach [e2] X.env:=by rfl)(hpl:(backTo pos2 (starEach [e2] X.env)).any (·.1)=false:=by rfl)(hs2:starEach [.Call (.Name "zip" p2) [e,e2] [] pos2] X.env=[(false,eval (.Call (.Name "zip" p2) [e,e2] [] pos2) X.env)]:=by rfl) :
  PE X (.Call (.Name "dict" p) [.Call (.Name "zip" p2) [e,e2] [] pos2] [] pos) (zze X.K ta):=by
 intro pins s σ H Q I h
 refine wpAny_Call_Name_kw (zho I hg2 hm2 zva ?_)
 refine PyProof.Rows.callWith_type1 ?_ hs2 rfl
 rw[hs2]
 refine Calls.spliced_cons ?_
 refine Call_ (zho I hg hm zp1 (PyProof.Rows.callWith_type1 (thn (ha pos2 pins s σ H _ I h) λus s1 ⟨vs,H1,I1,r1,q1⟩=>?_) hs hpl))
 obtain⟨a,y,ks,ex,hq,hasc,hlen,hne,q⟩:=q1
 subst ex
 cases r1 with
 |cons r rr=>
  cases rr with
  |cons r' rr=>
   cases rr
   cases r
   obtain⟨t,rfl⟩:=r'
   obtain⟨its,rv,p1,hzz⟩:=I1.list hq
   rw[qec]at hzz
   have la:a<s1.heap.objs.size:=p1.lt
   refine zu6 p1.isList hasc λh' hz hTI hTO h1 h2 hsz hk=>?_
   refine Calls.spliced_nil ?_
   have D:zm6 (s1.heap.objs.size+4) (s1.heap.objs.size+2) (s1.heap.objs.size+3) s1.heap.objs.size (s1.heap.objs.size+1) a:=by
    have Z:=PySem.W.ktu_apart s1.heap.objs.size a a la la
    exact⟨Z.TIz,Z.TOz,Z.i1z,Z.i2z,Z.TITO,Z.TIi1,Z.TIi2,Z.TOi1,Z.TOi2,Z.i12,Z.l1z,Z.l1TO,Z.l1i1,Z.l1i2⟩
   have hl:its.length=ks.length:=by have:=rv.length;rw[qec]at this;lia
   have hpl:(ks.zip y.cps.toList).length=ks.length:=by rw[List.length_zip,hlen];simp
   refine zn1 (s:={ s1 with heap:=h' }) (prs:=ks.zip y.cps.toList) (I.ok.hd hc) D hz hTI hTO h1 h2 (p1.isList.at λo e=>hk _ _ e) (by rw[hpl,qet,hl]) (λz=>?_) (by rw[hpl];exact hzz) (λj q' e=>?_) λh'' tk vs rel hd' k=>?_
   ·rw[z]at hpl;cases ks with
    |nil=>exact hne rfl
    |cons _ _=>simp at hpl
   ·rw[qhg]at e
    obtain⟨u,hu,ru⟩:=rv.get (i:=j) (x:=kV q'.1) (by rw[qeh,e.1];rfl)
    exact⟨u,by simpa using hu,zuu (P:=X.prog) (w:=X.w) ru,by rw[<-qh3];exact e.2⟩
   ·have big:s1.heap.objs.size<=h'.objs.size:=by rw[hsz];lia
    have hm:(h'.objs.size == sysModules)=false:=beq_eq_false_iff_ne.mpr (qgp (qep I1.big big))
    have hlen:(zd2 [] ((ks.zip y.cps.toList).map zkv)).length<=sizeLine:=by
     refine qfq (zhn _ []) ?_
     rw[qe8,Nat.zero_add,qec,hpl];exact hzz
    refine⟨.ref h'.objs.size,upd H1 h'.objs.size (.dK (zd2 [] ((ks.zip y.cps.toList).map zkv))),I1.laid (t':=tk) (λb o e=>?_) big (show ObjOk X.prog X.w _ _ _ (.dK (zd2 [] ((ks.zip y.cps.toList).map zkv))) from ⟨hlen,hm,merged [] vs,KV.merge rel .nil,hd'⟩),rfl,q _ (I1.hok.fresh big)⟩
    have hb:=Heap.lt_size e
    exact k b o (qe9 (qep hb (qgk _ _))) (qe9 (qep hb (qgk _ _))) (qe9 hb) (qe9 (qep hb (qgk _ _))) (hk b o e)
open PySem PySem.Spec PyProof.Rows L3
def PEt(X:Cx)(e:Expr)(t:TE):Prop:=∀(pins:List (Addr×Obj))(s:Shared)(σ:St)(H:Hp)(Q:VK),Inv X pins σ H s->t σ H Q->wpAny (model X.prog X.w) X.A (eval e X.env) (λu s'=>1<=s'.toks/\EP X pins σ Q u s') X.xe s
section
variable{X:Cx}{k:Nat}{C:Addr}{ps:List Str}{sp:Sp}{E:XK}{x m:Str}{p pos apos:Pos}{e o:Expr}{es:List Expr}{ta:TE}{t:TA}
theorem cMt{pl:Sem Bool}{z:Str}{j:Nat}{p':Pos}(O:OkM X.prog X.w X.K X.mg X.base k C m ps sp)(hr:Room k X.A)(th:zb9 X E)(he:PE X o ta)(hst:starEach [.Constant (.str z) j p'] X.env=(false,eval (.Constant (.str z) j p') X.env)::starEach [] X.env:=by rfl)(hpl:(backTo pos (starEach [] X.env)).any (·.1)=false:=by rfl)(ht:eval (.Call (.Attribute o m apos) [.Constant (.str z) j p'] [] pos) X.env=(do
   let ov <-eval o X.env
   standAt apos.atName
   let (f,first) <-holding [ov] (getMethod ov m pl)
   callWith pos f first (backTo pos (starEach [.Constant (.str z) j p'] X.env)) (backToKw pos (keywordEach [] X.env))):=by rfl) :
  PEt X (.Call (.Attribute o m apos) [.Constant (.str z) j p'] [] pos) (zvx C m sp E ta (zzf (tC (.str z)) qca)):=by
 obtain⟨c,f,fd,hm,hb,F⟩:=O
 intro pins s σ H Q I h
 refine qg6 (pl:=pl) (thn (he pins s σ H _ I h) λu s1 ⟨x,H1,I1,rx,a,dx,fs,ex,ea,l,q⟩=>?_) ht
 subst ex
 obtain rfl:u=Value.ref a:=rx
 refine zif I1 ea c hm l ?_
 refine qgu (first:=[.ref a]) (h₀:=X.base) I.ok.mod.kin hm.kp ?_ hst hpl
 rw[hst]
 refine Calls.spliced_cons (Calls.Constant_str (k:=j) (pos:=p') (Calls.spliced_nil ⟨(I1.tok _).kIn,?_⟩))
 have r:wpAny (model X.prog X.w) X.A _ (EP X pins σ Q) X.xe _:=zmj (us:=[.ref a,.str z s1.toks]) (vs:=[.ref a,.str z]) F hr hb .nil (zdk th) (I1.tok (s1.toks+1)) (.cons rfl (.cons ⟨_,rfl⟩ .nil)) (by rw[qfe];exact q)
 exact wpAny_mono (wpAny_toks_of (n:=1) (Nat.le_add_left 1 _) r) (λ_ _ x=>x) λ_ _ x=>x.2
def tRepl(a b:Str)(to:TE):TE:=λσ H Q=>to σ H λx H1=>∃z,x=.str z/\(a == b)=false/\z.length+(z.length+1)*b.length<=16777216/\Q (.str (PySem.Txt.replace z a b)) H1
theorem qc5{a b:Str}{j1 j2:Nat}{p1 p2 cpos:Pos}{to:TE}(ho:PEt X o to)(hbase:attributeBase o "replace" X.env (eval o X.env)=eval o X.env:=by rfl)(hfew:((backTo cpos (starEach [.Constant (.str a) j1 p1,.Constant (.str b) j2 p2] X.env)).all (λx=>!x.1) && (backToKw cpos (keywordEach [] X.env)).all (λx=>x.1.isSome)
   && decide (([.Constant (.str a) j1 p1,.Constant (.str b) j2 p2]:List Expr).length+([]:List Keyword).length+(if ([]:List Keyword).isEmpty then 0 else 1)<30))=true:=by rfl)(hline:(apos.endLine == cpos.line)=true:=by rfl)(hs:starEach [.Constant (.str a) j1 p1,.Constant (.str b) j2 p2] X.env=[(false,eval (.Constant (.str a) j1 p1) X.env),(false,eval (.Constant (.str b) j2 p2) X.env)]:=by rfl) :
  PE X (.Call (.Attribute o "replace" apos) [.Constant (.str a) j1 p1,.Constant (.str b) j2 p2] [] cpos) (tRepl a b to):=by
 intro pins s σ H Q I h
 refine wpAny_Call_method_late hbase hfew hline rfl (thn (ho pins s σ H _ I h) λv s1 ⟨htk,x,H1,I1,r1,z,ex,hab,hsz,q1⟩=>?_)
 subst ex
 obtain⟨t,rfl⟩:=r1
 refine⟨"str","str.replace",F.plainAttrs_str,F.slot_str_replace,F.type_str_replace,typeIs_str _ _ _,(λ_ e=>nomatch e),?_⟩
 rw[hs]
 refine Calls.callWith_builtin rfl (Calls.evalArgs_plain (Calls.spliced_cons (Calls.Constant_str (k:=j1) (pos:=p1) (Calls.spliced_cons (Calls.Constant_str (k:=j2) (pos:=p2) (Calls.spliced_nil ?_))))))
 have h1:s1.toks≠0:=by lia
 have h2:s1.toks+1≠0:=by lia
 have h3:s1.toks≠s1.toks+1:=by lia
 exact PySem.SC.replace h1 h2 h3 hab hsz λt' k=>⟨.str _,H1,I1.tok k,⟨t',rfl⟩,q1⟩
theorem zxk:MtR X "str.strip" (λx xs H Q=>∃a b,x=.str a/\xs=[.str b]/\a.length<=sizeLine/\Q (.str (PySem.Txt.stripChars a b)) H):=by
 intro pins s σ H x xs v us Q I rx rs h
 obtain⟨a,b,rfl,rfl,hz,h⟩:=h
 obtain⟨t,rfl⟩:=rx
 cases rs with
 |cons r1 rs=>
  cases rs
  obtain⟨u,rfl⟩:=r1
  exact PySem.SC.stripChars (λt' k=>⟨.str _,H,I.tok k,⟨t',rfl⟩,h⟩) hz
end
end L2
namespace U
open PySem L2
noncomputable def top(i:Nat):Stmt:=PySem.Challenge.pw_sheetunits_s01_un_read.main.body.getD i (.Pass ⟨0,0,0,0⟩)
noncomputable abbrev zgd:Stmt:=zax (top 1) 0
noncomputable abbrev zl6:List Str:=["self","number","at"]
theorem zl1:zak zl6 ["self","number","at"] (zag zgd):=⟨rfl,rfl,rfl,by decide +kernel,rfl,by decide +kernel,by decide +kernel⟩
noncomputable abbrev zgc:Stmt:=zax (top 2) 0
noncomputable abbrev zl5:List Str:=["self","at"]
theorem zl0:zak zl5 ["self","at"] (zag zgc):=⟨rfl,rfl,rfl,by decide +kernel,rfl,by decide +kernel,by decide +kernel⟩
noncomputable abbrev zgf:Stmt:=zax (top 3) 0
noncomputable abbrev zl8:List Str:=["self"]
theorem zl3:zak zl8 ["self"] (zag zgf):=⟨rfl,rfl,rfl,by decide +kernel,rfl,by decide +kernel,by decide +kernel⟩
noncomputable abbrev zfb:Stmt:=zax (top 4) 0
noncomputable abbrev zll:List Str:=["self","at"]
theorem zk7:zak zll ["self","at"] (zag zfb):=⟨rfl,rfl,rfl,by decide +kernel,rfl,by decide +kernel,by decide +kernel⟩
noncomputable abbrev zfc:Stmt:=zax (top 5) 0
noncomputable abbrev zlm:List Str:=["self","at"]
theorem zk8:zak zlm ["self","at"] (zag zfc):=⟨rfl,rfl,rfl,by decide +kernel,rfl,by decide +kernel,by decide +kernel⟩
noncomputable abbrev zfa:Stmt:=zax (top 6) 0
noncomputable abbrev zlk:List Str:=["self","at"]
theorem zk6:zak zlk ["self","at"] (zag zfa):=⟨rfl,rfl,rfl,by decide +kernel,rfl,by decide +kernel,by decide +kernel⟩
noncomputable abbrev zj9:Stmt:=zax (top 10) 0
noncomputable abbrev zr7:List Str:=["self","word","name","parameters","steps"]
theorem zrv:zak zr7 ["self","word","name","parameters","steps"] (zag zj9):=⟨rfl,rfl,rfl,by decide +kernel,rfl,by decide +kernel,by decide +kernel⟩
noncomputable abbrev zhf:Stmt:=zax (top 11) 0
noncomputable abbrev zn6:List Str:=["self","tokens"]
theorem zn2:zak zn6 ["self","tokens"] (zag zhf):=⟨rfl,rfl,rfl,by decide +kernel,rfl,by decide +kernel,by decide +kernel⟩
noncomputable abbrev zge:Stmt:=zax (top 11) 1
noncomputable abbrev zl7:List Str:=["self"]
theorem zl2:zak zl7 ["self"] (zag zge):=⟨rfl,rfl,rfl,by decide +kernel,rfl,by decide +kernel,by decide +kernel⟩
noncomputable abbrev zhe:Stmt:=zax (top 11) 2
noncomputable abbrev zn5:List Str:=["self","sort","token"]
theorem c_Reader_take:zak zn5 ["self","sort"] (zag zhe):=⟨rfl,rfl,rfl,by decide +kernel,rfl,by decide +kernel,by decide +kernel⟩
noncomputable abbrev zeu:Stmt:=zax (top 11) 3
noncomputable abbrev zja:List Str:=["self","sort"]
theorem zi8:zak zja ["self","sort"] (zag zeu):=⟨rfl,rfl,rfl,by decide +kernel,rfl,by decide +kernel,by decide +kernel⟩
noncomputable abbrev zix:Stmt:=zax (top 11) 4
noncomputable abbrev zqg:List Str:=["self","action","name","number"]
theorem zp0:zak zqg ["self","action","name","number"] (zag zix):=⟨rfl,rfl,rfl,by decide +kernel,rfl,by decide +kernel,by decide +kernel⟩
noncomputable abbrev zdh:Stmt:=zax (top 11) 5
noncomputable abbrev zg2:List Str:=["self","read"]
theorem c_Reader_read_sheet:zak zg2 ["self"] (zag zdh):=⟨rfl,rfl,rfl,by decide +kernel,rfl,by decide +kernel,by decide +kernel⟩
noncomputable abbrev zdy:Stmt:=zax (top 11) 6
noncomputable abbrev zhz:List Str:=["self","name","parameters"]
theorem c_Reader_read_item:zak zhz ["self"] (zag zdy):=⟨rfl,rfl,rfl,by decide +kernel,rfl,by decide +kernel,by decide +kernel⟩
noncomputable abbrev zcb:Stmt:=zax (top 11) 7
noncomputable abbrev zej:List Str:=["self","names"]
theorem c_Reader_read_parameters:zak zej ["self"] (zag zcb):=⟨rfl,rfl,rfl,by decide +kernel,rfl,by decide +kernel,by decide +kernel⟩
noncomputable abbrev zc1:Stmt:=zax (top 11) 8
noncomputable abbrev zft:List Str:=["self"]
theorem zfq:zak zft ["self"] (zag zc1):=⟨rfl,rfl,rfl,by decide +kernel,rfl,by decide +kernel,by decide +kernel⟩
noncomputable abbrev zcc:Stmt:=zax (top 11) 9
noncomputable abbrev zek:List Str:=["self","depth"]
theorem zcg:zak zek ["self","depth"] (zag zcc):=⟨rfl,rfl,rfl,by decide +kernel,rfl,by decide +kernel,by decide +kernel⟩
noncomputable abbrev zec:Stmt:=zax (top 11) 10
noncomputable abbrev zir:List Str:=["self","depth"]
theorem zil:zak zir ["self","depth"] (zag zec):=⟨rfl,rfl,rfl,by decide +kernel,rfl,by decide +kernel,by decide +kernel⟩
noncomputable abbrev zdw:Stmt:=zax (top 11) 11
noncomputable abbrev zhx:List Str:=["self","depth","sign"]
theorem c_Reader_read_term:zak zhx ["self","depth"] (zag zdw):=⟨rfl,rfl,rfl,by decide +kernel,rfl,by decide +kernel,by decide +kernel⟩
noncomputable abbrev zdi:Stmt:=zax (top 11) 12
noncomputable abbrev zg3:List Str:=["self","depth","sign","digits"]
theorem c_Reader_read_power:zak zg3 ["self","depth"] (zag zdi):=⟨rfl,rfl,rfl,by decide +kernel,rfl,by decide +kernel,by decide +kernel⟩
noncomputable abbrev zc9:Stmt:=zax (top 11) 13
noncomputable abbrev zga:List Str:=["self","depth"]
theorem zdb:zak zga ["self","depth"] (zag zc9):=⟨rfl,rfl,rfl,by decide +kernel,rfl,by decide +kernel,by decide +kernel⟩
noncomputable abbrev zc8:Stmt:=zax (top 11) 14
noncomputable abbrev zf9:List Str:=["self","digits"]
theorem c_Reader_read_number:zak zf9 ["self"] (zag zc8):=⟨rfl,rfl,rfl,by decide +kernel,rfl,by decide +kernel,by decide +kernel⟩
noncomputable abbrev zdx:Stmt:=zax (top 11) 15
noncomputable abbrev zhy:List Str:=["self","depth","name"]
theorem c_Reader_read_name:zak zhy ["self","depth"] (zag zdx):=⟨rfl,rfl,rfl,by decide +kernel,rfl,by decide +kernel,by decide +kernel⟩
noncomputable abbrev zcm:Stmt:=zax (top 11) 16
noncomputable abbrev zer:List Str:=["self","depth","count"]
theorem c_Reader_read_arguments:zak zer ["self","depth"] (zag zcm):=⟨rfl,rfl,rfl,by decide +kernel,rfl,by decide +kernel,by decide +kernel⟩
noncomputable abbrev zmi:Stmt:=top 12
noncomputable abbrev zvj:List Str:=["tokens"]
theorem zu9:zak zvj ["tokens"] (zag zmi):=⟨rfl,rfl,rfl,by decide +kernel,rfl,by decide +kernel,by decide +kernel⟩
noncomputable abbrev zos:Stmt:=top 17
noncomputable abbrev zy3:List Str:=[]
theorem zyt:zak zy3 [] (zag zos):=⟨rfl,rfl,rfl,by decide +kernel,rfl,by decide +kernel,by decide +kernel⟩
noncomputable abbrev ziv:Stmt:=top 18
noncomputable abbrev zqe:List Str:=["mark","product"]
theorem c_mark_alone:zak zqe ["mark"] (zag ziv):=⟨rfl,rfl,rfl,by decide +kernel,rfl,by decide +kernel,by decide +kernel⟩
noncomputable abbrev zhc:Stmt:=top 19
noncomputable abbrev zn3:List Str:=["place","product"]
theorem c_place_alone:zak zn3 ["place"] (zag zhc):=⟨rfl,rfl,rfl,by decide +kernel,rfl,by decide +kernel,by decide +kernel⟩
noncomputable abbrev zwa:Stmt:=top 20
noncomputable abbrev qd8:List Str:=["first","second","one","other"]
theorem c_times:zak qd8 ["first","second"] (zag zwa):=⟨rfl,rfl,rfl,by decide +kernel,rfl,by decide +kernel,by decide +kernel⟩
noncomputable abbrev zou:Stmt:=top 21
noncomputable abbrev zy5:List Str:=["first","second","one","other"]
theorem c_divided:zak zy5 ["first","second"] (zag zou):=⟨rfl,rfl,rfl,by decide +kernel,rfl,by decide +kernel,by decide +kernel⟩
noncomputable abbrev zsj:Stmt:=top 22
noncomputable abbrev qbb:List Str:=["product","power","exponent"]
theorem c_raised:zak qbb ["product","power"] (zag zsj):=⟨rfl,rfl,rfl,by decide +kernel,rfl,by decide +kernel,by decide +kernel⟩
noncomputable abbrev zsh:Stmt:=top 23
noncomputable abbrev qa9:List Str:=["product","bound"]
theorem qa7:zak qa9 ["product","bound"] (zag zsh):=⟨rfl,rfl,rfl,by decide +kernel,rfl,by decide +kernel,by decide +kernel⟩
noncomputable abbrev zmg:Stmt:=top 24
noncomputable abbrev zvh:List Str:=["product"]
theorem zu8:zak zvh ["product"] (zag zmg):=⟨rfl,rfl,rfl,by decide +kernel,rfl,by decide +kernel,by decide +kernel⟩
noncomputable abbrev zj2:Stmt:=top 25
noncomputable abbrev zr0:List Str:=["product"]
theorem zrs:zak zr0 ["product"] (zag zj2):=⟨rfl,rfl,rfl,by decide +kernel,rfl,by decide +kernel,by decide +kernel⟩
noncomputable abbrev zwb:Stmt:=top 26
noncomputable abbrev qd9:List Str:=["product","first"]
theorem qd4:zak qd9 ["product","first"] (zag zwb):=⟨rfl,rfl,rfl,by decide +kernel,rfl,by decide +kernel,by decide +kernel⟩
noncomputable abbrev zj5:Stmt:=top 27
noncomputable abbrev zr3:List Str:=["product","filling","result","given","exponent"]
theorem c_filled_in:zak zr3 ["product","filling"] (zag zj5):=⟨rfl,rfl,rfl,by decide +kernel,rfl,by decide +kernel,by decide +kernel⟩
noncomputable abbrev zov:Stmt:=top 30
noncomputable abbrev zy6:List Str:=["product","at"]
theorem zyu:zak zy6 ["product","at"] (zag zov):=⟨rfl,rfl,rfl,by decide +kernel,rfl,by decide +kernel,by decide +kernel⟩
noncomputable abbrev zdf:Stmt:=top 31
noncomputable abbrev zlg:List Str:=["rest","indexes","index"]
theorem c_nearest_place:zak zlg ["rest"] (zag zdf):=⟨rfl,rfl,rfl,by decide +kernel,rfl,by decide +kernel,by decide +kernel⟩
noncomputable abbrev zj1:Stmt:=top 32
noncomputable abbrev zrz:List Str:=["rest","index","result","exponent"]
theorem c_quotients:zak zrz ["rest","index"] (zag zj1):=⟨rfl,rfl,rfl,by decide +kernel,rfl,by decide +kernel,by decide +kernel⟩
noncomputable abbrev zmf:Stmt:=top 33
noncomputable abbrev zvg:List Str:=["product","index","taken"]
theorem zu7:zak zvg ["product","index","taken"] (zag zmf):=⟨rfl,rfl,rfl,by decide +kernel,rfl,by decide +kernel,by decide +kernel⟩
noncomputable abbrev zoo:Stmt:=top 34
noncomputable abbrev zyz:List Str:=["product","index"]
theorem zys:zak zyz ["product","index"] (zag zoo):=⟨rfl,rfl,rfl,by decide +kernel,rfl,by decide +kernel,by decide +kernel⟩
noncomputable abbrev ze9:Stmt:=top 35
noncomputable abbrev zlj:List Str:=["rest","at"]
theorem zk5:zak zlj ["rest","at"] (zag ze9):=⟨rfl,rfl,rfl,by decide +kernel,rfl,by decide +kernel,by decide +kernel⟩
noncomputable abbrev zor:Stmt:=top 36
noncomputable abbrev zy2:List Str:=["filling","equation","at","rest","index","others_left","taken","product"]
theorem c_settled:zak zy2 ["filling","equation","at"] (zag zor):=⟨rfl,rfl,rfl,by decide +kernel,rfl,by decide +kernel,by decide +kernel⟩
noncomputable abbrev zsi:Stmt:=top 37
noncomputable abbrev qba:List Str:=["equations","count","at","equation","filling","place"]
theorem c_solved:zak qba ["equations","count","at"] (zag zsi):=⟨rfl,rfl,rfl,by decide +kernel,rfl,by decide +kernel,by decide +kernel⟩
noncomputable abbrev zj8:Stmt:=zax (top 40) 0
noncomputable abbrev zr6:List Str:=["self","of","comes","places"]
theorem zru:zak zr6 ["self","of","comes","places"] (zag zj8):=⟨rfl,rfl,rfl,by decide +kernel,rfl,by decide +kernel,by decide +kernel⟩
noncomputable abbrev zj6:Stmt:=zax (top 41) 0
noncomputable abbrev zr4:List Str:=["self","at","known"]
theorem zrt:zak zr4 ["self","at","known"] (zag zj6):=⟨rfl,rfl,rfl,by decide +kernel,rfl,by decide +kernel,by decide +kernel⟩
noncomputable abbrev zdg:Stmt:=zax (top 41) 1
noncomputable abbrev zg1:List Str:=["self","count","first"]
theorem c_Work_claim_places:zak zg1 ["self","count"] (zag zdg):=⟨rfl,rfl,rfl,by decide +kernel,rfl,by decide +kernel,by decide +kernel⟩
noncomputable abbrev zet:Stmt:=zax (top 41) 2
noncomputable abbrev zi9:List Str:=["self"]
theorem zi7:zak zi9 ["self"] (zag zet):=⟨rfl,rfl,rfl,by decide +kernel,rfl,by decide +kernel,by decide +kernel⟩
noncomputable abbrev zea:Stmt:=zax (top 41) 3
noncomputable abbrev zio:List Str:=["self","first","second"]
theorem zik:zak zio ["self","first","second"] (zag zea):=⟨rfl,rfl,rfl,by decide +kernel,rfl,by decide +kernel,by decide +kernel⟩
noncomputable abbrev zeb:Stmt:=zax (top 41) 4
noncomputable abbrev ziq:List Str:=["self","step","action"]
theorem c_Work_go_through:zak ziq ["self","step"] (zag zeb):=⟨rfl,rfl,rfl,by decide +kernel,rfl,by decide +kernel,by decide +kernel⟩
noncomputable abbrev zc7:Stmt:=zax (top 41) 5
noncomputable abbrev zf8:List Str:=["self","name","kind"]
theorem c_Work_product_named:zak zf8 ["self","name"] (zag zc7):=⟨rfl,rfl,rfl,by decide +kernel,rfl,by decide +kernel,by decide +kernel⟩
noncomputable abbrev zj7:Stmt:=zax (top 41) 6
noncomputable abbrev zr5:List Str:=["self","kind","first","start","argument","parameter"]
theorem c_Work_call:zak zr5 ["self","kind"] (zag zj7):=⟨rfl,rfl,rfl,by decide +kernel,rfl,by decide +kernel,by decide +kernel⟩
noncomputable abbrev zc0:Stmt:=zax (top 41) 7
noncomputable abbrev zfs:List Str:=["self","action","second","first"]
theorem c_Work_bring_together:zak zfs ["self","action"] (zag zc0):=⟨rfl,rfl,rfl,by decide +kernel,rfl,by decide +kernel,by decide +kernel⟩
noncomputable abbrev zd9:Stmt:=top 42
noncomputable abbrev zin:List Str:=["products","order","product","place","exponent"]
theorem c_places_in_order:zak zin ["products"] (zag zd9):=⟨rfl,rfl,rfl,by decide +kernel,rfl,by decide +kernel,by decide +kernel⟩
noncomputable abbrev ze6:Stmt:=top 43
noncomputable abbrev zlf:List Str:=["product","order","places","place"]
theorem c_numbered_anew:zak zlf ["product","order"] (zag ze6):=⟨rfl,rfl,rfl,by decide +kernel,rfl,by decide +kernel,by decide +kernel⟩
noncomputable abbrev zj4:Stmt:=top 44
noncomputable abbrev zr2:List Str:=["parameters","comes","order","product"]
theorem c_kind_from:zak zr2 ["parameters","comes"] (zag zj4):=⟨rfl,rfl,rfl,by decide +kernel,rfl,by decide +kernel,by decide +kernel⟩
noncomputable abbrev zc6:Stmt:=top 45
noncomputable abbrev zf7:List Str:=["at","item","known","work","name","step","filling","parameters"]
theorem c_kind_of_expression:zak zf7 ["at","item","known"] (zag zc6):=⟨rfl,rfl,rfl,by decide +kernel,rfl,by decide +kernel,by decide +kernel⟩
noncomputable abbrev zmh:Stmt:=top 46
noncomputable abbrev zvi:List Str:=["sheet","known","units","at","item"]
theorem c_kinds_of:zak zvi ["sheet"] (zag zmh):=⟨rfl,rfl,rfl,by decide +kernel,rfl,by decide +kernel,by decide +kernel⟩
noncomputable abbrev zgb:Stmt:=top 51
noncomputable abbrev zl4:List Str:=["sheet","units","at","item"]
theorem c_check_counts:zak zl4 ["sheet"] (zag zgb):=⟨rfl,rfl,rfl,by decide +kernel,rfl,by decide +kernel,by decide +kernel⟩
noncomputable abbrev ze7:Stmt:=top 52
noncomputable abbrev zlh:List Str:=["item","before","seen","name"]
theorem c_names_are_new:zak zlh ["item","before"] (zag ze7):=⟨rfl,rfl,rfl,by decide +kernel,rfl,by decide +kernel,by decide +kernel⟩
noncomputable abbrev ze5:Stmt:=top 53
noncomputable abbrev zld:List Str:=["step","item","before","name"]
theorem c_step_is_right:zak zld ["step","item","before"] (zag ze5):=⟨rfl,rfl,rfl,by decide +kernel,rfl,by decide +kernel,by decide +kernel⟩
noncomputable abbrev ze8:Stmt:=top 54
noncomputable abbrev zli:List Str:=["item","before","step"]
theorem c_item_is_right:zak zli ["item","before"] (zag ze8):=⟨rfl,rfl,rfl,by decide +kernel,rfl,by decide +kernel,by decide +kernel⟩
noncomputable abbrev zhd:Stmt:=top 55
noncomputable abbrev zn4:List Str:=["sheet","before","at","item"]
theorem c_check_right:zak zn4 ["sheet"] (zag zhd):=⟨rfl,rfl,rfl,by decide +kernel,rfl,by decide +kernel,by decide +kernel⟩
noncomputable abbrev zoq:Stmt:=top 69
noncomputable abbrev zy1:List Str:=["t","signs","sign_of","sign","byte"]
theorem c_text_of:zak zy1 ["t"] (zag zoq):=⟨rfl,rfl,rfl,by decide +kernel,rfl,by decide +kernel,by decide +kernel⟩
noncomputable abbrev ziw:Stmt:=top 70
noncomputable abbrev zqf:List Str:=["text","start","signs","end"]
theorem c_end_of_run:zak zqf ["text","start","signs"] (zag ziw):=⟨rfl,rfl,rfl,by decide +kernel,rfl,by decide +kernel,by decide +kernel⟩
noncomputable abbrev zot:Stmt:=top 71
noncomputable abbrev zy4:List Str:=["text","start","name"]
theorem c_name_at:zak zy4 ["text","start"] (zag zot):=⟨rfl,rfl,rfl,by decide +kernel,rfl,by decide +kernel,by decide +kernel⟩
noncomputable abbrev zj3:Stmt:=top 72
noncomputable abbrev zr1:List Str:=["text","start","end","count","behind"]
theorem c_number_at:zak zr1 ["text","start"] (zag zj3):=⟨rfl,rfl,rfl,by decide +kernel,rfl,by decide +kernel,by decide +kernel⟩
noncomputable abbrev zme:Stmt:=top 73
noncomputable abbrev zvf:List Str:=["text","start","sign"]
theorem c_token_at:zak zvf ["text","start"] (zag zme):=⟨rfl,rfl,rfl,by decide +kernel,rfl,by decide +kernel,by decide +kernel⟩
noncomputable abbrev zsk:Stmt:=top 74
noncomputable abbrev qbc:List Str:=["text","tokens","start","token"]
theorem c_parted:zak qbc ["text"] (zag zsk):=⟨rfl,rfl,rfl,by decide +kernel,rfl,by decide +kernel,by decide +kernel⟩
noncomputable abbrev zj0:Stmt:=top 75
noncomputable abbrev zry:List Str:=["t","tokens"]
theorem c_tokens_of:zak zry ["t"] (zag zj0):=⟨rfl,rfl,rfl,by decide +kernel,rfl,by decide +kernel,by decide +kernel⟩
noncomputable abbrev ziu:Stmt:=top 77
noncomputable abbrev zqd:List Str:=["t","sheet"]
theorem c_read_kinds:zak zqd ["t"] (zag ziu):=⟨rfl,rfl,rfl,by decide +kernel,rfl,by decide +kernel,by decide +kernel⟩
noncomputable abbrev zop:Stmt:=top 78
noncomputable abbrev zy0:List Str:=["t","kinds","refusal"]
theorem c_un_read:zak zy0 ["t"] (zag zop):=⟨rfl,rfl,rfl,by decide +kernel,rfl,by decide +kernel,by decide +kernel⟩
noncomputable abbrev lpNP:Pos:=⟨218,28,218,58⟩
noncomputable def qNP:Str:=("nearest_place"++".<locals>.")++"<lambda>"
structure Ad where
 R:Addr
 Item:Addr
 Reader:Addr
 Kind:Addr
 Work:Addr
 WORDS:Addr
 cNP:Addr
 pNP:Addr
structure Txt(K:qed)(mg:Str->Option Value)(ad:Ad):Prop where
 M:MG K mg
 f_items_of:GF K "items_of" zmi ["tokens"]
 f_nothing:GF K "nothing" zos []
 f_mark_alone:GF K "mark_alone" ziv ["mark"]
 f_place_alone:GF K "place_alone" zhc ["place"]
 f_times:GF K "times" zwa ["first","second"]
 f_divided:GF K "divided" zou ["first","second"]
 f_raised:GF K "raised" zsj ["product","power"]
 f_within:GF K "within" zsh ["product","bound"]
 f_marks_of:GF K "marks_of" zmg ["product"]
 f_places_of:GF K "places_of" zj2 ["product"]
 f_moved:GF K "moved" zwb ["product","first"]
 f_filled_in:GF K "filled_in" zj5 ["product","filling"]
 f_bounded:GF K "bounded" zov ["product","at"]
 f_nearest_place:GF K "nearest_place" zdf ["rest"]
 f_quotients:GF K "quotients" zj1 ["rest","index"]
 f_narrowed:GF K "narrowed" zmf ["product","index","taken"]
 f_without:GF K "without" zoo ["product","index"]
 f_check_no_mark:GF K "check_no_mark" ze9 ["rest","at"]
 f_settled:GF K "settled" zor ["filling","equation","at"]
 f_solved:GF K "solved" zsi ["equations","count","at"]
 f_places_in_order:GF K "places_in_order" zd9 ["products"]
 f_numbered_anew:GF K "numbered_anew" ze6 ["product","order"]
 f_kind_from:GF K "kind_from" zj4 ["parameters","comes"]
 f_kind_of_expression:GF K "kind_of_expression" zc6 ["at","item","known"]
 f_kinds_of:GF K "kinds_of" zmh ["sheet"]
 f_check_counts:GF K "check_counts" zgb ["sheet"]
 f_names_are_new:GF K "names_are_new" ze7 ["item","before"]
 f_step_is_right:GF K "step_is_right" ze5 ["step","item","before"]
 f_item_is_right:GF K "item_is_right" ze8 ["item","before"]
 f_check_right:GF K "check_right" zhd ["sheet"]
 f_text_of:GF K "text_of" zoq ["t"]
 f_end_of_run:GF K "end_of_run" ziw ["text","start","signs"]
 f_name_at:GF K "name_at" zot ["text","start"]
 f_number_at:GF K "number_at" zj3 ["text","start"]
 f_token_at:GF K "token_at" zme ["text","start"]
 f_parted:GF K "parted" zsk ["text"]
 f_tokens_of:GF K "tokens_of" zj0 ["t"]
 f_read_kinds:GF K "read_kinds" ziu ["t"]
 f_un_read:GF K "un_read" zop ["t"]
 c_np:GFC K "nearest_place" zdf ["rest"] ad.cNP ad.pNP
 k_DEEPEST:∃t,mg "DEEPEST"=some (.int 32 t)
 k_END:∃t,mg "END"=some (.str "end" t)
 k_MARKS:∃t,mg "MARKS"=some (.int 8 t)
 k_PLACES:∃t,mg "PLACES"=some (.int 24 t)
 k_LARGEST:∃t,mg "LARGEST"=some (.int 1073741824 t)
 k_LARGEST_TOLD:∃t,mg "LARGEST_TOLD"=some (.int 1048576 t)
 k_MOST_EQUATIONS:∃t,mg "MOST_EQUATIONS"=some (.int 256 t)
 k_MOST_ITEMS:∃t,mg "MOST_ITEMS"=some (.int 64 t)
 k_MOST_UNITS:∃t,mg "MOST_UNITS"=some (.int 8 t)
 k_MOST_PARAMETERS:∃t,mg "MOST_PARAMETERS"=some (.int 6 t)
 k_MOST_BYTES:∃t,mg "MOST_BYTES"=some (.int 8192 t)
 k_MOST_TOKENS:∃t,mg "MOST_TOKENS"=some (.int 2048 t)
 k_LONGEST_NAME:∃t,mg "LONGEST_NAME"=some (.int 16 t)
 k_MOST_DIGITS:∃t,mg "MOST_DIGITS"=some (.int 15 t)
 k_LETTERS:∃t,mg "LETTERS"=some (.str "abcdefghijklmnopqrstuvwxyz" t)
 k_DIGITS:∃t,mg "DIGITS"=some (.str "0123456789" t)
 k_NAME_SIGNS:∃t,mg "NAME_SIGNS"=some (.str "abcdefghijklmnopqrstuvwxyz0123456789_" t)
 k_SIGNS:∃t,mg "SIGNS"=some (.str "(),;=+-*/^<" t)
 k_BLANKS:∃t,mg "BLANKS"=some (.str " \n" t)
 k_POINT:∃t,mg "POINT"=some (.str "." t)
 k_STRANGE:∃t,mg "STRANGE"=some (.str "?" t)
 k_WORDS:mg "WORDS"=some (.ref ad.WORDS)/\∀H:Hp,SqT K H ad.WORDS [V.str "unit",V.str "let",V.str "fn",V.str "if",V.str "then",V.str "else"]
 z_zip:mg "zip"=none
 z_len:mg "len"=none
 z_range:mg "range"=none
 z_min:mg "min"=none
 z_max:mg "max"=none
 z_any:mg "any"=none
 z_all:mg "all"=none
 z_abs:mg "abs"=none
 z_enumerate:mg "enumerate"=none
 z_ord:mg "ord"=none
 z_dict:mg "dict"=none
 z_int:mg "int"=none
 g_R:mg "Refusal"=some (.ref ad.R)
 rc:RCls K ad.R
 r_init:∃f fd,qbd K ad.R "__init__" f/\Fun K "__init__" "Refusal.__init__" zgd f fd/\Binds K fd ["self","number","at"] []
 x_TooMuch:∃C f fd,XMk K C ad.R f/\mg "TooMuch"=some (.ref C)/\Fun K "__init__" "TooMuch.__init__" zgc f fd/\Binds K fd ["self","at"] []
 x_NoSheet:∃C f fd,XMk K C ad.R f/\mg "NoSheet"=some (.ref C)/\Fun K "__init__" "NoSheet.__init__" zgf f fd/\Binds K fd ["self"] []
 x_NotRight:∃C f fd,XMk K C ad.R f/\mg "NotRight"=some (.ref C)/\Fun K "__init__" "NotRight.__init__" zfb f fd/\Binds K fd ["self","at"] []
 x_NotAlike:∃C f fd,XMk K C ad.R f/\mg "NotAlike"=some (.ref C)/\Fun K "__init__" "NotAlike.__init__" zfc f fd/\Binds K fd ["self","at"] []
 x_TooLarge:∃C f fd,XMk K C ad.R f/\mg "TooLarge"=some (.ref C)/\Fun K "__init__" "TooLarge.__init__" zfa f fd/\Binds K fd ["self","at"] []
 g_Item:mg "Item"=some (.ref ad.Item)
 l_Item:Cls K ad.Item
 i_Item:∃f fd,Mk K ad.Item f/\Fun K "__init__" "Item.__init__" zj9 f fd/\Binds K fd ["self","word","name","parameters","steps"] []
 n_Item_word:NoAttr K ad.Item "word"
 n_Item_name:NoAttr K ad.Item "name"
 n_Item_parameters:NoAttr K ad.Item "parameters"
 n_Item_steps:NoAttr K ad.Item "steps"
 g_Reader:mg "Reader"=some (.ref ad.Reader)
 l_Reader:Cls K ad.Reader
 i_Reader:∃f fd,Mk K ad.Reader f/\Fun K "__init__" "Reader.__init__" zhf f fd/\Binds K fd ["self","tokens"] []
 n_Reader_tokens:NoAttr K ad.Reader "tokens"
 n_Reader_position:NoAttr K ad.Reader "position"
 n_Reader_steps:NoAttr K ad.Reader "steps"
 m_Reader_ahead:GM K ad.Reader "ahead" "Reader.ahead" zge ["self"]
 m_Reader_take:GM K ad.Reader "take" "Reader.take" zhe ["self","sort"]
 m_Reader_take_if:GM K ad.Reader "take_if" "Reader.take_if" zeu ["self","sort"]
 m_Reader_put:GM K ad.Reader "put" "Reader.put" zix ["self","action","name","number"]
 m_Reader_read_sheet:GM K ad.Reader "read_sheet" "Reader.read_sheet" zdh ["self"]
 m_Reader_read_item:GM K ad.Reader "read_item" "Reader.read_item" zdy ["self"]
 m_Reader_read_parameters:GM K ad.Reader "read_parameters" "Reader.read_parameters" zcb ["self"]
 m_Reader_read_meaning:GM K ad.Reader "read_meaning" "Reader.read_meaning" zc1 ["self"]
 m_Reader_read_expression:GM K ad.Reader "read_expression" "Reader.read_expression" zcc ["self","depth"]
 m_Reader_read_sum:GM K ad.Reader "read_sum" "Reader.read_sum" zec ["self","depth"]
 m_Reader_read_term:GM K ad.Reader "read_term" "Reader.read_term" zdw ["self","depth"]
 m_Reader_read_power:GM K ad.Reader "read_power" "Reader.read_power" zdi ["self","depth"]
 m_Reader_read_factor:GM K ad.Reader "read_factor" "Reader.read_factor" zc9 ["self","depth"]
 m_Reader_read_number:GM K ad.Reader "read_number" "Reader.read_number" zc8 ["self"]
 m_Reader_read_name:GM K ad.Reader "read_name" "Reader.read_name" zdx ["self","depth"]
 m_Reader_read_arguments:GM K ad.Reader "read_arguments" "Reader.read_arguments" zcm ["self","depth"]
 g_Kind:mg "Kind"=some (.ref ad.Kind)
 l_Kind:Cls K ad.Kind
 i_Kind:∃f fd,Mk K ad.Kind f/\Fun K "__init__" "Kind.__init__" zj8 f fd/\Binds K fd ["self","of","comes","places"] []
 n_Kind_of:NoAttr K ad.Kind "of"
 n_Kind_comes:NoAttr K ad.Kind "comes"
 n_Kind_places:NoAttr K ad.Kind "places"
 g_Work:mg "Work"=some (.ref ad.Work)
 l_Work:Cls K ad.Work
 i_Work:∃f fd,Mk K ad.Work f/\Fun K "__init__" "Work.__init__" zj6 f fd/\Binds K fd ["self","at","known"] []
 n_Work_at:NoAttr K ad.Work "at"
 n_Work_known:NoAttr K ad.Work "known"
 n_Work_own:NoAttr K ad.Work "own"
 n_Work_used:NoAttr K ad.Work "used"
 n_Work_equations:NoAttr K ad.Work "equations"
 n_Work_came:NoAttr K ad.Work "came"
 m_Work_claim_places:GM K ad.Work "claim_places" "Work.claim_places" zdg ["self","count"]
 m_Work_new_place:GM K ad.Work "new_place" "Work.new_place" zet ["self"]
 m_Work_tell_alike:GM K ad.Work "tell_alike" "Work.tell_alike" zea ["self","first","second"]
 m_Work_go_through:GM K ad.Work "go_through" "Work.go_through" zeb ["self","step"]
 m_Work_product_named:GM K ad.Work "product_named" "Work.product_named" zc7 ["self","name"]
 m_Work_call:GM K ad.Work "call" "Work.call" zj7 ["self","kind"]
 m_Work_bring_together:GM K ad.Work "bring_together" "Work.bring_together" zc0 ["self","action"]
theorem bnd0{P:List Value->Prop}(h:P []):∀us,us.length=0->P us
 |[],_=>h
theorem zjn{P:List Value->Prop}(h:∀x0,P [x0]):∀us,us.length=1->P us
 |[x0],_=>h x0
theorem ze1{P:List Value->Prop}(h:∀x0 x1,P [x0,x1]):∀us,us.length=2->P us
 |[x0,x1],_=>h x0 x1
theorem qa8{P:List Value->Prop}(h:∀x0 x1 x2,P [x0,x1,x2]):∀us,us.length=3->P us
 |[x0,x1,x2],_=>h x0 x1 x2
theorem bnd4{P:List Value->Prop}(h:∀x0 x1 x2 x3,P [x0,x1,x2,x3]):∀us,us.length=4->P us
 |[x0,x1,x2,x3],_=>h x0 x1 x2 x3
theorem bnd5{P:List Value->Prop}(h:∀x0 x1 x2 x3 x4,P [x0,x1,x2,x3,x4]):∀us,us.length=5->P us
 |[x0,x1,x2,x3,x4],_=>h x0 x1 x2 x3 x4
section
variable{K:qed}{mg:Str->Option Value}{h:Heap}
theorem zij{x:Str}{i:Int}{t:Tok}(X:K.In h)(G:h.Ns mainGlobals mg)(e:qgv K mainGlobals x=some (some (.int i t))):∃t,mg x=some (.int i t):=⟨t,qgn X G e⟩
theorem zpz{x:Str}{i:Str}{t:Tok}(X:K.In h)(G:h.Ns mainGlobals mg)(e:qgv K mainGlobals x=some (some (.str i t))):∃t,mg x=some (.str i t):=⟨t,qgn X G e⟩
theorem c_tup6{x:Str}{a:Addr}{s1 s2 s3 s4 s5 s6:Str}{t1 t2 t3 t4 t5 t6:Tok}{od:Option Addr}{n:Nat}{sl:Array (Option Value)}(X:K.In h)(G:h.Ns mainGlobals mg)(e:qgv K mainGlobals x=some (some (.ref a)))(l:K.lookup a=some ⟨.type "tuple",od,.seq #[.str s1 t1,.str s2 t2,.str s3 t3,.str s4 t4,.str s5 t5,.str s6 t6] n,sl⟩):mg x=some (.ref a)/\∀H:Hp,SqT K H a [V.str s1,V.str s2,V.str s3,V.str s4,V.str s5,V.str s6]:=
 ⟨qgn X G e,λH=>.inr ⟨_,_,_,l,rfl,rfl,by show 6<=sizeLine;decide,.cons ⟨_,rfl⟩ (.cons ⟨_,rfl⟩ (.cons ⟨_,rfl⟩ (.cons ⟨_,rfl⟩ (.cons ⟨_,rfl⟩ (.cons ⟨_,rfl⟩ .nil)))))⟩⟩
theorem x_mk{x qual:Str}{C R f:Addr}{st:Stmt}{ps:List Str}{nm q:Str}{N:Addr}{bs:List Value}{sn:List Str}{sub:List Value}{ab:Bool}{col:Option Bool}{dd:Option Addr}{k0 k1 k2 k3 k5:Option Value}{oc:Value}{od an:Option Addr}{osl:Array (Option Value)}{kV doc pm cdv ct:Value}(X:K.In h)(G:h.Ns mainGlobals mg)(a:qgv K mainGlobals x=some (some (.ref C)))(c:K.lookup C=some (L3.clsX nm q C R N bs sn sub ab col dd k0 k1 k2 k3 k5))(sa:qes K (.ref C) "__setattr__"=some (some (.builtin "object.__setattr__")))(ga:qes K (.ref C) "__getattribute__"=some (some (.builtin "BaseException.__getattribute__")))(gh:qes K (.ref C) "__getattr__"=some none)(nn:qes K (.ref C) "number"=some none)(na:qes K (.ref C) "at"=some none)(kp:qfs K (.ref C)=true)(i:qes K (.ref C) "__init__"=some (some (.ref f)))(fn:qhp K (.ref f)=true)(l:K.lookup f=some ⟨oc,od,.func (qfr "__init__" qual (zbu st) (zbh st) (zag st) .none kV doc pm an cdv ct),osl⟩)(cd:qgj K cdv qual=true)(kf:qfs K (.ref f)=true)(b:∀(kV doc pm:Value) (an:Option Addr) (cdv ct:Value) (us:List Value),us.length=ps.length->bindArgs (qfr "__init__" qual (zbu st) (zbh st) (zag st) .none kV doc pm an cdv ct) ⟨us,[]⟩=pure (ps.zip us)) :
  ∃C f fd,XMk K C R f/\mg x=some (.ref C)/\Fun K "__init__" qual st f fd/\Binds K fd ps []:=
 ⟨C,f,_,⟨⟨⟨_,_,_,_,_,_,_,_,_,_,_,_,_,_,c⟩,sa,ga,gh,nn,na,kp⟩,i,fn⟩,qgn X G a,zgh l cd kf,(zgh l cd kf).binds b⟩
theorem r_mk{R:Addr}{nm q:Str}{N:Addr}{bs:List Value}{sn:List Str}{sub:List Value}{ab:Bool}{col:Option Bool}{dd:Option Addr}{k0 k1 k2 k3 k5:Option Value}(c:K.lookup R=some (excClassObj nm q R N bs L3.bmE true sn sub ab col dd k0 k1 k2 k3 k5 "Exception.__new__")):RCls K R:=⟨_,_,_,_,_,_,_,_,_,_,_,_,_,_,c⟩
theorem ri_mk{R f:Addr}{st:Stmt}{ps:List Str}{m qual:Str}{oc:Value}{od an:Option Addr}{osl:Array (Option Value)}{kV doc pm cdv ct:Value}(s1:PySem.W.specialIn K (.ref R) "__getattribute__"=some (some (.builtin "type.__getattribute__")))(s2:PySem.W.readsIn K R (.type "type")=true)(s3:PySem.W.findCls K (.ref R) (.type "type") m=some (.val (.ref f)))(l:K.lookup f=some ⟨oc,od,.func (qfr m qual (zbu st) (zbh st) (zag st) .none kV doc pm an cdv ct),osl⟩)(cd:qgj K cdv qual=true)(kf:qfs K (.ref f)=true)(b:∀(kV doc pm:Value) (an:Option Addr) (cdv ct:Value) (us:List Value),us.length=ps.length->bindArgs (qfr m qual (zbu st) (zbh st) (zag st) .none kV doc pm an cdv ct) ⟨us,[]⟩=pure (ps.zip us)) :
  ∃f fd,qbd K R m f/\Fun K m qual st f fd/\Binds K fd ps []:=⟨f,_,⟨s1,s2,s3,kf⟩,zgh l cd kf,(zgh l cd kf).binds b⟩
theorem i_mk{C f:Addr}{st:Stmt}{ps:List Str}{qual:Str}{oc:Value}{od an:Option Addr}{osl:Array (Option Value)}{kV doc pm cdv ct:Value}(mk:qja K C=true)(i:qes K (.ref C) "__init__"=some (some (.ref f)))(fn:qhp K (.ref f)=true)(kp:qfs K (.ref C)=true)(l:K.lookup f=some ⟨oc,od,.func (qfr "__init__" qual (zbu st) (zbh st) (zag st) .none kV doc pm an cdv ct),osl⟩)(cd:qgj K cdv qual=true)(kf:qfs K (.ref f)=true)(b:∀(kV doc pm:Value) (an:Option Addr) (cdv ct:Value) (us:List Value),us.length=ps.length->bindArgs (qfr "__init__" qual (zbu st) (zbh st) (zag st) .none kV doc pm an cdv ct) ⟨us,[]⟩=pure (ps.zip us)) :
  ∃f fd,Mk K C f/\Fun K "__init__" qual st f fd/\Binds K fd ps []:=⟨f,_,⟨mk,i,fn,kp⟩,zgh l cd kf,(zgh l cd kf).binds b⟩
end
section
variable{P:Program}{w:World}{K:qed}{mg:Str->Option Value}{base:Heap}{ad:Ad}
def spR(K:qed)(R:Addr):Sp:=λvs H Q _=>∃(C e:Addr)(n k:Int),vs=[.ref e,.int n,.int k]/\H e=some (zzb C e)/\zvd K C R/\∀dx H',dx≠e->H' e=some (xob C dx e)->H' dx=some (xdo dx (xf n k))->Q .non H'
theorem put_at(n k:Int):zmm "at" (.int k) [(("number":Str),V.int n)]=xf n k:=by
 show (if ("number":Str)="at" then _ else _)=_
 rw[if_neg (by decide +kernel)]
 rfl
theorem ok_R(T:Txt K mg ad):∃f fd,qbd K ad.R "__init__" f/\Binds K fd ["self","number","at"] []/\FnOk P w K mg base (CX1 P w) 1 f fd ["self","number","at"] (spR K ad.R):=by
 obtain⟨f,fd,cm,F,hb⟩:=T.r_init
 refine⟨f,fd,cm,hb,F.okX zl1 (λvs H Q E h=>?_) (λcdv A outer s H vs Q E hr h=>?_)⟩
 ·obtain⟨C,e,n,k,rfl,_⟩:=h
  rfl
 ·obtain⟨C,e,n,k,rfl,he,xc,q⟩:=h
  refine⟨_,zac (zzz (pv 0) (pv 1) rfl) (zaf (zzy (pv 0) (pv 2) rfl)),?_⟩
  refine⟨_,rfl,_,rfl,e,C,ad.R,rfl,he,xc,xc.nn,λdx hd ne=>?_⟩
  refine⟨_,rfl,_,rfl,e,C,ad.R,dx,_,rfl,(by rw[zah ne.symm,zad]),zad,ne,xc,xc.na,(by show 1<=1000;decide),?_⟩
  refine q dx _ ne (by rw[zah ne.symm,zah ne.symm,zad]) (by rw[zad,put_at])
theorem zf0(T:Txt K mg ad):OkX P w K mg base ad.R 2 "TooMuch" (-28):=by
 obtain⟨C,f,fd,M,hm,F,hb⟩:=T.x_TooMuch
 obtain⟨g,gd,cm,gb,G⟩:=ok_R (P:=P) (w:=w) (base:=base) T
 refine⟨C,f,fd,M,hm,hb,F.okX zl0 (λvs H Q E h=>?_) (λcdv A outer s H vs Q E hr h=>?_)⟩
 ·obtain⟨e,k,rfl,_⟩:=h
  rfl
 ·obtain⟨e,k,rfl,he,q⟩:=h
  refine⟨_,zaf (zal (zke cm G hr rfl T.g_R gb (zdk zab) (zaa (pv 0) (zaa (zud zmc zan) (zaa (pv 1) zae))))),?_⟩
  exact⟨_,rfl,_,rfl,_,rfl,C,e,-28,k,rfl,he,M.cl,λdx H' ne e1 e2=>q dx H' ne e1 e2⟩
theorem zkk(T:Txt K mg ad):OkX P w K mg base ad.R 2 "NotRight" (-22):=by
 obtain⟨C,f,fd,M,hm,F,hb⟩:=T.x_NotRight
 obtain⟨g,gd,cm,gb,G⟩:=ok_R (P:=P) (w:=w) (base:=base) T
 refine⟨C,f,fd,M,hm,hb,F.okX zk7 (λvs H Q E h=>?_) (λcdv A outer s H vs Q E hr h=>?_)⟩
 ·obtain⟨e,k,rfl,_⟩:=h
  rfl
 ·obtain⟨e,k,rfl,he,q⟩:=h
  refine⟨_,zaf (zal (zke cm G hr rfl T.g_R gb (zdk zab) (zaa (pv 0) (zaa (zud zmc zan) (zaa (pv 1) zae))))),?_⟩
  exact⟨_,rfl,_,rfl,_,rfl,C,e,-22,k,rfl,he,M.cl,λdx H' ne e1 e2=>q dx H' ne e1 e2⟩
theorem zqz(T:Txt K mg ad):OkX P w K mg base ad.R 2 "NotAlike" (-61):=by
 obtain⟨C,f,fd,M,hm,F,hb⟩:=T.x_NotAlike
 obtain⟨g,gd,cm,gb,G⟩:=ok_R (P:=P) (w:=w) (base:=base) T
 refine⟨C,f,fd,M,hm,hb,F.okX zk8 (λvs H Q E h=>?_) (λcdv A outer s H vs Q E hr h=>?_)⟩
 ·obtain⟨e,k,rfl,_⟩:=h
  rfl
 ·obtain⟨e,k,rfl,he,q⟩:=h
  refine⟨_,zaf (zal (zke cm G hr rfl T.g_R gb (zdk zab) (zaa (pv 0) (zaa (zud zmc zan) (zaa (pv 1) zae))))),?_⟩
  exact⟨_,rfl,_,rfl,_,rfl,C,e,-61,k,rfl,he,M.cl,λdx H' ne e1 e2=>q dx H' ne e1 e2⟩
theorem zqy(T:Txt K mg ad):OkX P w K mg base ad.R 2 "TooLarge" (-75):=by
 obtain⟨C,f,fd,M,hm,F,hb⟩:=T.x_TooLarge
 obtain⟨g,gd,cm,gb,G⟩:=ok_R (P:=P) (w:=w) (base:=base) T
 refine⟨C,f,fd,M,hm,hb,F.okX zk6 (λvs H Q E h=>?_) (λcdv A outer s H vs Q E hr h=>?_)⟩
 ·obtain⟨e,k,rfl,_⟩:=h
  rfl
 ·obtain⟨e,k,rfl,he,q⟩:=h
  refine⟨_,zaf (zal (zke cm G hr rfl T.g_R gb (zdk zab) (zaa (pv 0) (zaa (zud zmc zan) (zaa (pv 1) zae))))),?_⟩
  exact⟨_,rfl,_,rfl,_,rfl,C,e,-75,k,rfl,he,M.cl,λdx H' ne e1 e2=>q dx H' ne e1 e2⟩
theorem zde(T:Txt K mg ad):OkX0 P w K mg base ad.R 2 "NoSheet" (-71):=by
 obtain⟨C,f,fd,M,hm,F,hb⟩:=T.x_NoSheet
 obtain⟨g,gd,cm,gb,G⟩:=ok_R (P:=P) (w:=w) (base:=base) T
 refine⟨C,f,fd,M,hm,hb,F.okX zl3 (λvs H Q E h=>?_) (λcdv A outer s H vs Q E hr h=>?_)⟩
 ·obtain⟨e,rfl,_⟩:=h
  rfl
 ·obtain⟨e,rfl,he,q⟩:=h
  refine⟨_,zaf (zal (zke cm G hr rfl T.g_R gb (zdk zab) (zaa (pv 0) (zaa (zud zmc zan) (zaa zan zae))))),?_⟩
  exact⟨_,rfl,_,rfl,C,e,-71,0,rfl,he,M.cl,λdx H' ne e1 e2=>q dx H' ne e1 e2⟩
end
abbrev LI(H:Hp)(p:Addr)(ns:List Int):Prop:=H p=some (.lst (ns.map V.int))
def ztt(H:Hp)(Q:VK)(ys:List Int):Prop:=∀r H',H r=none->Same H H'->LI H' r ys->Q (.ref r) H'
def zv1:Sp:=λvs H Q _=>vs=[]/\ztt H Q (qem 32 0)
def spMark:Sp:=λvs H Q _=>∃i:Nat,vs=[.int i]/\i<8/\ztt H Q ((qem 32 0).set i 1)
def qci:Sp:=λvs H Q _=>∃p:Nat,vs=[.int p]/\p<24/\ztt H Q ((qem 32 0).set (8+p) 1)
def sp2(f:Int->Int->Int):Sp:=λvs H Q _=>∃(a b:Addr)(xs ys:List Int),vs=[.ref a,.ref b]/\LI H a xs/\LI H b ys/\xs.length<=1000/\ztt H Q (qeu f xs ys)
def zzl:Sp:=λvs H Q _=>∃(a:Addr)(xs:List Int)(k:Int),vs=[.ref a,.int k]/\LI H a xs/\xs.length<=1000/\(-(2 ^ 64)<k/\k<2 ^ 64)/\ztt H Q (xs.map (·*k))
def inB(b:Int)(xs:List Int):Bool:=xs.all λk=>decide (-b<=k) && decide (k<=b)
def zzh:Sp:=λvs H Q _=>∃(a:Addr)(xs:List Int)(b:Int),vs=[.ref a,.int b]/\LI H a xs/\0<xs.length/\Q (.bl (inB b xs)) H
def qcm:Sp:=λvs H Q _=>∃(a:Addr)(xs:List Int),vs=[.ref a]/\LI H a xs/\ztt H Q (xs.take 8)
def zzm:Sp:=λvs H Q _=>∃(a:Addr)(xs:List Int),vs=[.ref a]/\LI H a xs/\ztt H Q (xs.drop 8)
def qcl:Sp:=λvs H Q _=>∃(a:Addr)(xs:List Int)(k:Nat),vs=[.ref a,.int k]/\LI H a xs/\k<=24/\xs.length<=1000/\ztt H Q (xs.take 8++qem k 0++(xs.drop 8).take (24 - k))
theorem zhg(n:Nat):(qem n [V.int 0]).flatten=(qem n (0:Int)).map V.int:=by
 induction n with
 |zero=>rfl
 |succ n ih=>rw[qgg,qhb,ih,qgg];rfl
theorem map_set(l:List Int)(i:Nat)(x:Int):(l.map V.int).set i (.int x)=(l.set i x).map V.int:=(List.map_set ..).symm
theorem zpv(xs:List Int)(k:Nat):zpw (xs.map V.int) none (some (k:Int))=(xs.take k).map V.int:=by
 unfold zpw
 rw[HT.sIx_none,HT.sIx_nat,qgx,Nat.sub_zero,qec,<-qic]
 congr 1
 by_cases h:k<=xs.length
 ·rw[qg7 h]
 ·rw[qhj (by lia),qe5 (by lia),qe5 (by lia)]
theorem zyo(xs:List Int)(k:Nat):zpw (xs.map V.int) (some (k:Int)) none=(xs.drop k).map V.int:=by
 unfold zpw
 rw[HT.sIx_none,HT.sIx_nat,qec,<-qhs,<-qic]
 congr 1
 by_cases h:k<=xs.length
 ·rw[qg7 h,qe5 (by simp)]
 ·rw[qhj (by lia),qgr (by lia),qgr (by lia)];simp
section
variable{P:Program}{w:World}{K:qed}{mg:Str->Option Value}{base:Heap}{ad:Ad}
theorem zh8(T:Txt K mg ad):Ok P w K mg base 1 "nothing" [] zv1:=by
 obtain⟨t1,hM⟩:=T.k_MARKS
 obtain⟨t2,hP⟩:=T.k_PLACES
 refine T.f_nothing.ok T.M zyt (λvs H Q E h=>?_) (λf cdv A outer s H vs Q E hr h=>?_)
 ·obtain⟨rfl,_⟩:=h
  rfl
 ·obtain⟨rfl,q⟩:=h
  refine⟨_,zaf (zaq (zbc zsx (zbx (zaa zan zae)) (zbc zb7 (zav (v:=.int 8) rfl hM ⟨_,rfl⟩) (zav (v:=.int 24) rfl hP ⟨_,rfl⟩)))),?_⟩
  refine⟨(by show 1<=sizeLine;decide),λl hl=>?_⟩
  refine⟨_,_,rfl,rfl,l,_,_,rfl,rfl,zad,(by decide),(by decide),(by show 1*32<=sizeLine;decide),λp hp=>?_⟩
  have s1:Same H (upd H l (.lst [.int 0])):=zaj hl _
  refine q p _ (s1.free hp) (s1.trans (zaj hp _)) ?_
  show upd _ _ _ _=_
  rw[zad]
  exact congrArg (λz=>some (HO.lst z)) (zhg 32)
theorem qdi(T:Txt K mg ad):Ok P w K mg base 2 "mark_alone" ["mark"] spMark:=by
 have O:=zh8 (P:=P) (w:=w) (base:=base) T
 refine T.f_mark_alone.ok T.M c_mark_alone (λvs H Q E h=>?_) (λf cdv A outer s H vs Q E hr h=>?_)
 ·obtain⟨i,rfl,_⟩:=h
  rfl
 ·obtain⟨i,rfl,hi,q⟩:=h
  refine⟨_,zac (zap (i:=1) c_mark_alone.nd rfl (Or.inl rfl) (cN0 O hr zab)) (zac (zwl zan (zwr (pv 1) (pv 0) zne)) (zaf (zaq (pv 1)))),?_⟩
  refine⟨rfl,λr H' hr s1 e1=>?_⟩
  refine⟨_,rfl,_,rfl,r,_,_,i,rfl,rfl,e1,?_,_,rfl,?_⟩
  ·rw[qec];unfold ixN;rw[if_pos (by lia),if_pos (by simp;lia)];simp
  ·refine q r _ hr (zay s1 hr _) ?_
   show upd _ _ _ _=_
   rw[zad,map_set]
theorem zs1(T:Txt K mg ad):Ok P w K mg base 2 "place_alone" ["place"] qci:=by
 have O:=zh8 (P:=P) (w:=w) (base:=base) T
 obtain⟨t1,hM⟩:=T.k_MARKS
 refine T.f_place_alone.ok T.M c_place_alone (λvs H Q E h=>?_) (λf cdv A outer s H vs Q E hr h=>?_)
 ·obtain⟨i,rfl,_⟩:=h
  rfl
 ·obtain⟨i,rfl,hi,q⟩:=h
  refine⟨_,zac (zap (i:=1) c_place_alone.nd rfl (Or.inl rfl) (cN0 O hr zab)) (zac (zwl zan (zwr (pv 1) (zbc zb7 (zav (v:=.int 8) rfl hM ⟨_,rfl⟩) (pv 0)) zne)) (zaf (zaq (pv 1)))),?_⟩
  refine⟨rfl,λr H' hr s1 e1=>?_⟩
  refine⟨_,rfl,_,rfl,_,_,rfl,rfl,r,_,_,8+i,rfl,rfl,e1,?_,_,rfl,?_⟩
  ·rw[qec];unfold ixN;rw[if_pos (by lia),if_pos (by simp;lia)];congr 1
  ·refine q r _ hr (zay s1 hr _) ?_
   show upd _ _ _ _=_
   rw[zad,map_set]
theorem zs0(T:Txt K mg ad):Ok P w K mg base 1 "times" ["first","second"] (sp2 λx y=>x+y):=by
 refine T.f_times.ok T.M c_times (λvs H Q E h=>?_) (λf cdv A outer s H vs Q E hr h=>?_)
 ·obtain⟨a,b,xs,ys,rfl,_⟩:=h
  rfl
 ·obtain⟨a,b,xs,ys,rfl,ha,hb,hz,q⟩:=h
  refine⟨_,zaf (zaq (zlt (own:=[("one",2),("other",3)]) rfl c_times.nd (zsr rfl T.z_zip (zaa (pv 0) (zaa (pv 1) zae))) (zbr (by rfl))
   (λ_ _ _ _ _=>ziz K 2 3 rfl c_times.nd rfl rfl rfl rfl) (λ_ _ _ _ _=>zco) (λ_ _ _ _ _=>zbc zb7 (pv 2) (pv 3)))),?_⟩
  refine⟨_,rfl,_,rfl,a,b,_,_,rfl,SqL.of ha,SqL.of hb,λD hD=>?_⟩
  exact zxu (λx y=>x+y) 2 3 hD (SqL.of ha) (SqL.of hb) (by lia) (λ_ _=>rfl) (λx y H2 Q' _ _ h=>⟨_,rfl,_,rfl,_,_,rfl,rfl,h⟩) λH' s1 e1=>q D H' hD s1 e1
theorem zh9(T:Txt K mg ad):Ok P w K mg base 1 "divided" ["first","second"] (sp2 λx y=>x - y):=by
 refine T.f_divided.ok T.M c_divided (λvs H Q E h=>?_) (λf cdv A outer s H vs Q E hr h=>?_)
 ·obtain⟨a,b,xs,ys,rfl,_⟩:=h
  rfl
 ·obtain⟨a,b,xs,ys,rfl,ha,hb,hz,q⟩:=h
  refine⟨_,zaf (zaq (zlt (own:=[("one",2),("other",3)]) rfl c_divided.nd (zsr rfl T.z_zip (zaa (pv 0) (zaa (pv 1) zae))) (zbr (by rfl))
   (λ_ _ _ _ _=>ziz K 2 3 rfl c_divided.nd rfl rfl rfl rfl) (λ_ _ _ _ _=>zco) (λ_ _ _ _ _=>zbc zkg (pv 2) (pv 3)))),?_⟩
  refine⟨_,rfl,_,rfl,a,b,_,_,rfl,SqL.of ha,SqL.of hb,λD hD=>?_⟩
  exact zxu (λx y=>x - y) 2 3 hD (SqL.of ha) (SqL.of hb) (by lia) (λ_ _=>rfl) (λx y H2 Q' _ _ h=>⟨_,rfl,_,rfl,_,_,rfl,rfl,h⟩) λH' s1 e1=>q D H' hD s1 e1
theorem zki(T:Txt K mg ad):Ok P w K mg base 1 "raised" ["product","power"] zzl:=by
 refine T.f_raised.ok T.M c_raised (λvs H Q E h=>?_) (λf cdv A outer s H vs Q E hr h=>?_)
 ·obtain⟨a,xs,k,rfl,_⟩:=h
  rfl
 ·obtain⟨a,xs,k,rfl,ha,hz,hk,q⟩:=h
  refine⟨_,zaf (zaq (zlt (own:=[("exponent",2)]) rfl c_raised.nd (zb2 (pv 0)) (zbr (by rfl))
   (λ_ _ _ _ _=>zbj (i:=2) c_raised.nd rfl (Or.inl rfl)) (λ_ _ _ _ _=>zco) (λ_ _ _ _ _=>zbc qbo (pv 2) (pv 1)))),?_⟩
  refine⟨_,rfl,a,rfl,⟨_,SqL.of ha⟩,λD hD=>?_⟩
  exact znt (λx=>x*k) 2 hD (SqL.of ha) (by lia) (λ_=>rfl) (λx H2 Q' _ _ h=>⟨_,rfl,_,rfl,_,_,rfl,rfl,.inr hk,h⟩) λH' s1 e1=>q D H' hD s1 e1
theorem zjg(T:Txt K mg ad):Ok P w K mg base 1 "marks_of" ["product"] qcm:=by
 obtain⟨t1,hM⟩:=T.k_MARKS
 refine T.f_marks_of.ok T.M zu8 (λvs H Q E h=>?_) (λf cdv A outer s H vs Q E hr h=>?_)
 ·obtain⟨a,xs,rfl,_⟩:=h
  rfl
 ·obtain⟨a,xs,rfl,ha,q⟩:=h
  refine⟨_,zaf (zaq (zcw zgj (pv 0) zgl (zct (zav (v:=.int 8) rfl hM ⟨_,rfl⟩)))),?_⟩
  refine⟨_,rfl,8,rfl,a,_,rfl,SqL.of ha,λp hp=>?_⟩
  refine q p _ hp (zaj hp _) ?_
  show upd _ _ _ _=_
  rw[zad]
  exact congrArg (λz=>some (HO.lst z)) (zpv xs 8)
theorem zfh(T:Txt K mg ad):Ok P w K mg base 1 "places_of" ["product"] zzm:=by
 obtain⟨t1,hM⟩:=T.k_MARKS
 refine T.f_places_of.ok T.M zrs (λvs H Q E h=>?_) (λf cdv A outer s H vs Q E hr h=>?_)
 ·obtain⟨a,xs,rfl,_⟩:=h
  rfl
 ·obtain⟨a,xs,rfl,ha,q⟩:=h
  refine⟨_,zaf (zaq (zcw zgj (pv 0) (zct (zav (v:=.int 8) rfl hM ⟨_,rfl⟩)) zgl)),?_⟩
  refine⟨_,rfl,8,rfl,a,_,rfl,SqL.of ha,λp hp=>?_⟩
  refine q p _ hp (zaj hp _) ?_
  show upd _ _ _ _=_
  rw[zad]
  exact congrArg (λz=>some (HO.lst z)) (zyo xs 8)
end
end U
namespace L2
open PySem PySem.Spec PyProof.Rows
theorem ztz{prog:Program}{w:World}{A:Around}{ns:List Int}{its:List Value}(e:Vals (ns.map V.int) its) :
  TruthOf prog w A (λi v=>its.toArray[i]?=some v) (λi=>(ns.map (· != 0)).getD i false):=λi v s Q E hv hq=>by
 have hv':its[i]?=some v:=by simpa using hv
 have hl:=e.length
 have hi:i<ns.length:=by
  have:=(qef.mp hv').1
  rw[qec]at hl;lia
 obtain⟨u,hu,ru⟩:=e.get (i:=i) (x:=.int ns[i]) (by rw[qeh,qe3 hi];rfl)
 rw[hv']at hu;cases hu
 obtain⟨t,rfl⟩:=ru
 have hg:(ns.map (· != 0)).getD i false=(ns[i] != 0):=by simp[hi]
 have hq':Q ((ns.map (· != 0)).getD i false) s:=hq
 rw[hg]at hq'
 exact PySem.P.truthy_int hq'
def rAnyI(K:qed):List V->Hp->VK->Prop:=λvs H Q=>∃(a:Addr)(ns:List Int),vs=[V.ref a]/\SqL K H a (ns.map V.int)/\Q (.bl (ns.any (· != 0))) H
theorem zrq{X:Cx}(hc:X.calm=true):zma X (.builtin "any") (rAnyI X.K):=by
 intro pins s σ H vs us Q I r h
 obtain⟨a,ns,rfl,hs,q⟩:=h
 obtain⟨its,rv,hl,_⟩:=I.list hs
 rw[Vals.ref1 r]
 have hlen:=rv.length
 refine call_any_walk (ztb hl.isList λs₂ e2 st hne=>?_)
 subst e2
 refine⟨_,_,_,_,_,_,_,rfl,Walks.list (A:=X.A.in1) (I.ok.hd hc) _ a hne its.toArray,st,ztz rv,λh' tk hk=>?_⟩
 refine⟨.bl _,H,I.kept λb o eo=>hk b o (λhmem=>?_) (Heap.get?_push_of_some _ eo),?_,q⟩
 ·rcases qer.mp hmem with e1|hmem
  ·exact absurd (e1▸Heap.lt_size eo) (qgi _)
  ·cases hmem
 ·show Value.bool _=Value.bool _
  have e:(ns.any (· != 0))=(ns.map (· != 0)).any id:=by rw[List.any_map];rfl
  rw[e,<-zp7,qet,qec,<-hlen,qec]
theorem zz7{X:Cx}:OpR X (binaryOp .FloorDiv) (rI (λ_ j=>j≠0/\j.natAbs<=1073741824) λi j=>.int (i.fdiv j)):=opI λ_ _ _ _ _ _ _ hc q=>floordiv_int hc.1 q (.inl (PyProof.noPylong_of_log2 (by
 have h:_:=hc.2
 have h0:_:=hc.1
 rw[Nat.log2_lt (by lia)]
 exact Nat.lt_of_le_of_lt h (qep (by decide:1073741824<2 ^ 31) (Nat.pow_le_pow_right (by decide) (by decide))))))
end L2
namespace U
open PySem L2
def Rows(H:Hp):List Addr->List (List Int)->Prop:=Paired (λr s=>LI H r s)
def qd1(xs:List Int)(ss:List (List Int)):List Int:=(qg8 ss (xs.drop 8)).foldl (λacc q=>if q.2=0 then acc else qeu (λx y=>x+y) acc (q.1.map (·*q.2))) (xs.take 8++qem 24 0)
def zzr:Sp:=λvs H Q _=>∃(a b:Addr)(xs:List Int)(rs:List Addr)(ss:List (List Int)),vs=[.ref a,.ref b]/\LI H a xs/\H b=some (.lst (rs.map V.ref))/\Rows H rs ss/\xs.length=32/\(∀s∈ss,s.length=32)/\rs.length<=24 ∧
 (∀x∈xs,-(2 ^ 64)<x/\x<2 ^ 64)/\ztt H Q (qd1 xs ss)
def zv3(K:qed)(R:Addr):Sp:=λvs H Q E=>∃(a:Addr)(xs:List Int)(k:Int),vs=[.ref a,.int k]/\LI H a xs/\0<xs.length/\(inB 1073741824 xs=true->Q (.ref a) H)/\(inB 1073741824 xs=false->zaw K R E (-75) k)
def spQuot:Sp:=λvs H Q _=>∃(a:Addr)(xs:List Int)(j:Nat)(x:Int),vs=[.ref a,.int j]/\LI H a xs/\xs.length<=1000/\xs[j]?=some x/\x≠0/\x.natAbs<=1073741824/\ztt H Q ((xs.map λk=>k.fdiv x).set j 0)
def zt6:Sp:=λvs H Q _=>∃(a b:Addr)(xs ys:List Int)(j:Nat)(x:Int),vs=[.ref a,.int j,.ref b]/\LI H a xs/\LI H b ys/\xs.length<=1000/\ys.length<=1000/\xs[j]?=some x/\(-(2 ^ 64)<x/\x<2 ^ 64) ∧
 (x=0->Q (.ref a) H)/\(x≠0->ztt H Q (qeu (λu v=>u - v) xs (ys.map (·*x))))
def zvy:Sp:=λvs H Q _=>∃(a:Addr)(xs:List Int)(j:Nat),vs=[.ref a,.int j]/\LI H a xs/\xs.length<=1000/\ztt H Q (xs.take j++[0]++xs.drop (j+1))
def zzq(K:qed)(R:Addr):Sp:=λvs H Q E=>∃(a:Addr)(xs:List Int)(k:Int),vs=[.ref a,.int k]/\LI H a xs/\((xs.take 8).any (· != 0)=false->∀H',Same H H'->Q .non H')/\((xs.take 8).any (· != 0)=true->zaw K R E (-61) k)
section
variable{P:Program}{w:World}{K:qed}{mg:Str->Option Value}{base:Heap}{ad:Ad}
theorem inB_of{b m n:Int}{xs:List Int}(h1:m∈xs)(h2:∀y∈xs,y<=m)(h3:n∈xs)(h4:∀y∈xs,n<=y):inB b xs=(decide (m<=b) && decide (n ≥ 0 - b)):=by
 rw[qfy]
 unfold inB
 simp only[qeo,qev,decide_eq_true_eq]
 constructor
 ·intro h
  have a:=(h m h1).2
  have b':=(h n h3).1
  exact⟨a,by lia⟩
 ·rintro ⟨a,b'⟩ y hy
  have c:=h2 y hy
  have d:=h4 y hy
  exact⟨by lia,by lia⟩
theorem zo8(T:Txt K mg ad):Ok P w K mg base 1 "within" ["product","bound"] zzh:=by
 refine T.f_within.ok T.M qa7 (λvs H Q E h=>?_) (λf cdv A outer s H vs Q E hr h=>?_)
 ·obtain⟨a,xs,b,rfl,_⟩:=h
  rfl
 ·obtain⟨a,xs,b,rfl,ha,hz,q⟩:=h
  refine⟨_,zaf (zaq (zo4 (zh4 op_le (za3 (cr_max rfl) rfl T.z_max (by decide +kernel) (zaa (pv 0) zae)) (pv 1) (zaz _)) (zo2 (zh4 op_ge (za3 (cr_min rfl) rfl T.z_min (by decide +kernel) (zaa (pv 0) zae)) (zbc zkg zan (pv 1)) (zaz _))))),?_⟩
  refine⟨_,rfl,a,xs,rfl,SqL.of ha,hz,λm h1 h2=>⟨_,rfl,_,_,rfl,rfl,_,rfl,?_⟩⟩
  refine zb3 (λc=>?_) (λc=>?_)
  ·refine⟨_,rfl,a,xs,rfl,SqL.of ha,hz,λn h3 h4=>⟨_,rfl,_,_,rfl,rfl,_,_,rfl,rfl,?_⟩⟩
   have e:=inB_of (b:=b) h1 h2 h3 h4
   rw[c,Bool.true_and]at e
   rw[e]at q
   exact q
  ·have hx:inB b xs=false:=by
    rw[qfd]
    intro z
    unfold inB at z
    have:=qeo.mp z m h1
    rw[qev]at this
    exact c this.2
   rw[hx]at q
   exact q
theorem zs2(T:Txt K mg ad):Ok P w K mg base 2 "moved" ["product","first"] qcl:=by
 have O1:=zjg (P:=P) (w:=w) (base:=base) T
 have O2:=zfh (P:=P) (w:=w) (base:=base) T
 obtain⟨t2,hP⟩:=T.k_PLACES
 refine T.f_moved.ok T.M qd4 (λvs H Q E h=>?_) (λf cdv A outer s H vs Q E hr h=>?_)
 ·obtain⟨a,xs,k,rfl,_⟩:=h
  rfl
 ·obtain⟨a,xs,k,rfl,ha,hk,hz,q⟩:=h
  refine⟨_,zaf (zaq (zbc zgg (zbc zgg (cN O1 hr zab (zaa (pv 0) zae)) (zbc zsx (zbx (zaa zan zae)) (pv 1)))
   (zcw zgj (cN O2 hr zab (zaa (pv 0) zae)) zgl (zct (zbc zkg (zav (v:=.int 24) rfl hP ⟨_,rfl⟩) (pv 1)))))),?_⟩
  refine⟨_,rfl,a,xs,rfl,ha,λr1 H1 n1 s1 e1=>?_⟩
  refine⟨(by show 1<=sizeLine;decide),λl hl=>?_⟩
  have s2:Same H1 (upd H1 l (.lst [.int 0])):=zaj hl _
  refine⟨_,rfl,l,_,_,rfl,rfl,zad,(by lia),(by lia),(by show 1*(k:Int).toNat<=sizeLine;exact big (by lia)),λr2 n2=>?_⟩
  have s3:=zaj (o:=HO.lst (qem ((k:Int).toNat) [V.int 0]).flatten) n2
  refine⟨r1,r2,_,_,rfl,rfl,s3 _ _ (s2 _ _ e1),zad,?_,λr3 n3=>?_⟩
  ·rw[zns,qec,qe2];exact big (by simp;lia)
  have s4:=zaj (o:=HO.lst ((xs.take 8).map V.int++(qem ((k:Int).toNat) [V.int 0]).flatten)) n3
  have S:=(s1.trans s2).trans (s3.trans s4)
  refine⟨_,rfl,a,xs,rfl,S _ _ ha,λr4 H4 n4 s5 e4=>?_⟩
  refine⟨_,rfl,_,_,rfl,rfl,(24:Int) - k,rfl,r4,_,rfl,SqL.of e4,λr5 n5=>?_⟩
  have s6:=zaj (o:=HO.lst (zpw ((xs.drop 8).map V.int) none (some ((24:Int) - k)))) n5
  have hc:zpw ((xs.drop 8).map V.int) none (some ((24:Int) - k))=((xs.drop 8).take (24 - k)).map V.int:=by
   have:((24:Int) - k)=((24 - k:Nat):Int):=by lia
   rw[this];exact zpv _ _
  refine⟨r3,r5,_,_,rfl,rfl,s6 _ _ (s5 _ _ zad),zad,?_,λr6 n6=>?_⟩
  ·rw[hc,qee,zns,qec,qec,qe2,qe2,qfl];exact big (by simp;lia)
  have S6:=(S.trans s5).trans s6
  refine q r6 _ (S6.free n6) (S6.trans (zaj n6 _)) ?_
  show upd _ _ _ _=_
  rw[zad,hc]
  have:(k:Int).toNat=k:=by simp
  rw[this,zhg,<-qej,<-qej]
theorem zul(T:Txt K mg ad):Ok P w K mg base 4 "bounded" ["product","at"] (zv3 K ad.R):=by
 have O1:=zo8 (P:=P) (w:=w) (base:=base) T
 have X1:=zqy (P:=P) (w:=w) (base:=base) T
 obtain⟨t2,hL⟩:=T.k_LARGEST
 refine T.f_bounded.ok T.M zyu (λvs H Q E h=>?_) (λf cdv A outer s H vs Q E hr h=>?_)
 ·obtain⟨a,xs,k,rfl,_⟩:=h
  rfl
 ·obtain⟨a,xs,k,rfl,ha,hz,q1,q2⟩:=h
  refine⟨_,zac (za9 (zmn (zce (cN O1 (hr.mono (by decide)) zab (zaa (pv 0) (zaa (zav (v:=.int 1073741824) rfl hL ⟨_,rfl⟩) zae))))) (zaf (zng X1 hr zab (pv 1))) zau) (zaf (zaq (pv 0))),?_⟩
  refine⟨_,rfl,a,xs,1073741824,rfl,ha,hz,_,rfl,?_⟩
  cases e:inB 1073741824 xs with
  |true=>exact⟨_,rfl,q1 e⟩
  |false=>exact⟨_,rfl,k,rfl,q2 e⟩
end
theorem Rows.get{H:Hp}:∀{rs:List Addr}{ss:List (List Int)}{i:Nat}{r:Addr},Rows H rs ss->rs[i]?=some r->∃s,ss[i]?=some s/\LI H r s
 |_,_,_,_,.nil,h=>by simp at h
 |_,_,0,_,.cons a t,h=>by simp at h;subst h;exact⟨_,rfl,a⟩
 |_,_,i+1,r,.cons a t,h=>by
  obtain⟨s,h1,h2⟩:=Rows.get (i:=i) (r:=r) t (by simpa using h)
  exact⟨s,by simpa using h1,h2⟩
theorem Rows.len{H:Hp}{rs:List Addr}{ss:List (List Int)}(h:Rows H rs ss):rs.length=ss.length:=Paired.length h
theorem Rows.same{H H':Hp}(s:Same H H'){rs:List Addr}{ss:List (List Int)}(h:Rows H rs ss):Rows H' rs ss:=Paired.mapP h λa b q=>s _ _ q
abbrev zlz(acc:List Int)(q:List Int×Int):List Int:=if q.2=0 then acc else qeu (λx y=>x+y) acc (q.1.map (·*q.2))
theorem zps{acc:List Int}{q:List Int×Int}(h:acc.length=32)(hq:q.1.length=32):(zlz acc q).length=32:=by
 unfold zlz;split
 ·exact h
 ·simp[h,hq]
theorem ne0{e:Int}:(!decide (V.int e=V.int 0))=!decide (e=0):=by
 congr 1
 rw[decide_eq_decide]
 exact⟨λh=>by cases h;rfl,λh=>by rw[h]⟩
section
variable{P:Program}{w:World}{K:qed}{mg:Str->Option Value}{base:Heap}{ad:Ad}
theorem zxa(T:Txt K mg ad):Ok P w K mg base 2 "filled_in" ["product","filling"] zzr:=by
 have O1:=zjg (P:=P) (w:=w) (base:=base) T
 have O2:=zfh (P:=P) (w:=w) (base:=base) T
 have O3:=zs0 (P:=P) (w:=w) (base:=base) T
 have O4:=zki (P:=P) (w:=w) (base:=base) T
 obtain⟨t2,hP⟩:=T.k_PLACES
 refine T.f_filled_in.ok T.M c_filled_in (λvs H Q E h=>?_) (λf cdv A outer s H vs Q E hr h=>?_)
 ·obtain⟨a,b,xs,rs,ss,rfl,_⟩:=h
  rfl
 ·obtain⟨a,b,xs,rs,ss,rfl,ha,hb,hR,hz,hs,h24,hx,q⟩:=h
  refine⟨_,zac (zap (i:=2) c_filled_in.nd rfl (Or.inl rfl) (zbc zgg (cN O1 hr zab (zaa (pv 0) zae)) (zbc zsx (zbx (zaa zan zae)) (zav (v:=.int 24) rfl hP ⟨_,rfl⟩))))
   (zac (zew zbl rfl (zsr rfl T.z_zip (zaa (pv 1) (zaa (cN O2 hr zab (zaa (pv 0) zae)) zae))) (ziz K 3 4 rfl c_filled_in.nd rfl rfl rfl rfl)
    (zaf (za9 (zas zo7 (pv 4) zan (zaz _)) (zaf (zap (i:=2) c_filled_in.nd rfl (Or.inl rfl) (cN O3 hr zab (zaa (pv 2) (zaa (cN O4 hr zab (zaa (pv 3) (zaa (pv 4) zae))) zae))))) zau)))
   (zaf (zaq (pv 2)))),?_⟩
  refine⟨_,rfl,a,xs,rfl,ha,λr1 H1 n1 s1 e1=>?_⟩
  refine⟨(by show 1<=sizeLine;decide),λl hl=>?_⟩
  have s2:Same H1 (upd H1 l (.lst [.int 0])):=zaj hl _
  refine⟨l,_,_,rfl,rfl,zad,(by decide),(by decide),(by show 1*24<=sizeLine;decide),λr2 n2=>?_⟩
  have s3:=zaj (o:=HO.lst (qem ((24:Int).toNat) [V.int 0]).flatten) n2
  refine⟨r1,r2,_,_,rfl,rfl,s3 _ _ (s2 _ _ e1),zad,?_,λr3 n3=>?_⟩
  ·rw[zns,qec,qe2];exact big (by simp;lia)
  have s4:=zaj (o:=HO.lst ((xs.take 8).map V.int++(qem ((24:Int).toNat) [V.int 0]).flatten)) n3
  have S:=(s1.trans s2).trans (s3.trans s4)
  have n3':H r3=none:=(s1.trans (s2.trans s3)).free n3
  refine⟨_,rfl,_,rfl,a,xs,rfl,S _ _ ha,λr4 H4 n4 s5 e4=>?_⟩
  have S4:=S.trans s5
  refine⟨b,r4,_,_,rfl,SqL.of (S4 _ _ hb),SqL.of e4,zx7 (xs:=rs.map V.ref) (ys:=(xs.drop 8).map V.int) (λi σ H'=>∃(r:Addr)(acc:List Int)(v3 v4:Option V),σ=[some (.ref a),some (.ref b),some (.ref r),v3,v4]/\Same H4 H'/\H r=none ∧
   acc=((qg8 ss (xs.drop 8)).take i).foldl zlz (xs.take 8++qem 24 0)/\acc.length=32/\LI H' r acc) ?_ ?_ ?_ ?_⟩
  ·refine⟨r3,_,none,none,rfl,Same.refl _,n3',rfl,by simp[hz],?_⟩
   refine s5 _ _ ?_
   rw[zad,qjd,List.foldl_nil,qej]
   exact congrArg (λz=>some (HO.lst (_++z))) (zhg 24)
  ·rintro i σ H' _ ⟨r,acc,v3,v4,_,s6,_⟩
   exact⟨SqL.of (s6 _ _ (S4 _ _ hb)),SqL.of (s6 _ _ e4)⟩
  ·rintro i x y T' σ H' hx1 hy1 nT ⟨r,acc,v3,v4,rfl,s6,nr,eacc,lacc,er⟩
   rw[qeh]at hx1 hy1
   obtain⟨g,hg,rfl⟩:=qei.mp hx1
   obtain⟨e,he,rfl⟩:=qei.mp hy1
   have sT:=zaj (o:=HO.tup [V.ref g,V.int e]) nT
   obtain⟨sg,hsg,eg⟩:=(hR.same (S4.trans s6)).get hg
   have step:((qg8 ss (xs.drop 8)).take (i+1)).foldl zlz (xs.take 8++qem 24 0)=zlz acc (sg,e):=by
    have hzz:(qg8 ss (xs.drop 8))[i]?=some (sg,e):=by
     rw[qhg];exact⟨hsg,he⟩
    rw[qfn (l:=qg8 ss (xs.drop 8)) (i:=i),hzz,qf6,qg9,<-eacc];rfl
   have lsg:sg.length=32:=hs sg (qe7 hsg)
   refine⟨T',_,rfl,.inl (.inl zad),rfl,_,_,rfl,_,_,rfl,rfl,?_⟩
   refine⟨_,rfl,rfl,_,rfl,?_⟩
   rw[ne0]
   by_cases h0:e=0
   ·rw[decide_eq_true h0]
    refine⟨r,_,_,_,rfl,s6.trans sT,nr,rfl,?_,?_⟩
    ·rw[step];exact zps lacc lsg
    ·rw[step];unfold zlz;rw[if_pos h0];exact sT _ _ er
   ·rw[decide_eq_false h0]
    refine⟨_,rfl,_,rfl,_,rfl,g,sg,e,rfl,sT _ _ eg,by lia,hx e (qey (qe7 he)),λr5 H5 n5 s7 e5=>?_⟩
    refine⟨r,r5,acc,_,rfl,s7 _ _ (sT _ _ er),e5,by lia,λr6 H6 n6 s8 e6=>?_⟩
    have S8:=(s6.trans sT).trans (s7.trans s8)
    refine⟨r6,_,_,_,rfl,S8,(S4.trans ((s6.trans sT).trans s7)).free n6,rfl,?_,?_⟩
    ·rw[step];exact zps lacc lsg
    ·rw[step];unfold zlz;rw[if_neg h0];exact e6
  ·rintro σ H' ⟨r,acc,v3,v4,rfl,s6,nr,eacc,lacc,er⟩
   refine⟨_,rfl,q r H' nr (S4.trans s6) ?_⟩
   have hf:(qg8 ss (xs.drop 8)).take (min (rs.map V.ref).length ((xs.drop 8).map V.int).length)=qg8 ss (xs.drop 8):=by
    rw[qe5]
    rw[List.length_zip,qec,qec,hR.len];exact qek _
   rw[hf]at eacc
   rw[eacc]at er
   exact er
theorem qdb(T:Txt K mg ad):Ok P w K mg base 1 "quotients" ["rest","index"] spQuot:=by
 refine T.f_quotients.ok T.M c_quotients (λvs H Q E h=>?_) (λf cdv A outer s H vs Q E hr h=>?_)
 ·obtain⟨a,xs,j,x,rfl,_⟩:=h
  rfl
 ·obtain⟨a,xs,j,x,rfl,ha,hz,hj,x0,x1,q⟩:=h
  have jl:j<xs.length:=(qef.mp hj).1
  refine⟨_,zac (znf (i:=2) (own:=[("exponent",3)]) rfl c_quotients.nd rfl rfl (by rfl) (zb2 (pv 0)) (zbr (by rfl))
   (λ_ _ _ _ _=>zbj (i:=3) c_quotients.nd rfl (Or.inl rfl)) (λ_ _ _ _ _=>zco) (λ_ _ _ _ _=>zbc zz7 (pv 3) (zdt (r:=rIxL K) zfl (pv 0) (pv 1) (λ_ _=>rfl))))
   (zac (zwl zan (zwr (pv 2) (pv 1) zne)) (zaf (zaq (pv 2)))),?_⟩
  refine⟨_,rfl,a,rfl,⟨_,SqL.of ha⟩,λD hD=>?_⟩
  refine znt (λk=>k.fdiv x) 3 hD (SqL.of ha) (by lia) (λ_=>rfl) (λz H2 Q' _ s1 h=>⟨_,rfl,_,rfl,_,rfl,a,_,_,_,rfl,rfl,s1.seq (SqL.of ha),zfr (by rw[qeh,hj];rfl),_,_,rfl,rfl,⟨x0,x1⟩,h⟩) λH' s1 e1=>?_
  refine⟨_,rfl,_,rfl,D,_,_,j,rfl,rfl,e1,?_,_,rfl,?_⟩
  ·rw[qec,qec];unfold ixN;rw[if_pos (by lia),if_pos (by lia)];simp
  ·refine q D _ hD (zay s1 hD _) ?_
   show upd _ _ _ _=_
   rw[zad,map_set]
theorem zqx(T:Txt K mg ad):Ok P w K mg base 2 "narrowed" ["product","index","taken"] zt6:=by
 have O3:=zh9 (P:=P) (w:=w) (base:=base) T
 have O4:=zki (P:=P) (w:=w) (base:=base) T
 refine T.f_narrowed.ok T.M zu7 (λvs H Q E h=>?_) (λf cdv A outer s H vs Q E hr h=>?_)
 ·obtain⟨a,b,xs,ys,j,x,rfl,_⟩:=h
  rfl
 ·obtain⟨a,b,xs,ys,j,x,rfl,ha,hb,hz,hy,hj,hx,q1,q2⟩:=h
  refine⟨_,zac (za9 (zas zed (zdt zfl (pv 0) (pv 1) (λ_ _=>rfl)) zan (zaz _)) (zaf (zaq (pv 0))) zau)
   (zaf (zaq (cN O3 hr zab (zaa (pv 0) (zaa (cN O4 hr zab (zaa (pv 2) (zaa (zdt zfl (pv 0) (pv 1) (λ_ _=>rfl)) zae))) zae))))),?_⟩
  have hat:atI (xs.map V.int) (j:Int)=some (.int x):=zfr (by rw[qeh,hj];rfl)
  refine⟨_,rfl,_,rfl,a,_,_,_,rfl,rfl,SqL.of ha,hat,rfl,_,rfl,?_⟩
  by_cases h0:x=0
  ·subst h0
   exact⟨_,rfl,q1 rfl⟩
  ·rw[show decide (V.int x=V.int 0)=false from decide_eq_false λz=>h0 (by cases z;rfl)]
   refine⟨_,rfl,_,rfl,_,rfl,_,rfl,a,_,_,_,rfl,rfl,SqL.of ha,hat,b,ys,x,rfl,hb,hy,hx,λr1 H1 n1 s1 e1=>?_⟩
   refine⟨a,r1,xs,_,rfl,s1 _ _ ha,e1,hz,λr2 H2 n2 s2 e2=>?_⟩
   exact q2 h0 r2 H2 (s1.free n2) (s1.trans s2) e2
theorem zuh(T:Txt K mg ad):Ok P w K mg base 1 "without" ["product","index"] zvy:=by
 refine T.f_without.ok T.M zys (λvs H Q E h=>?_) (λf cdv A outer s H vs Q E hr h=>?_)
 ·obtain⟨a,xs,j,rfl,_⟩:=h
  rfl
 ·obtain⟨a,xs,j,rfl,ha,hz,q⟩:=h
  refine⟨_,zaf (zaq (zbc zgg (zbc zgg (zcw zgj (pv 0) zgl (zct (pv 1))) (zbx (zaa zan zae))) (zcw zgj (pv 0) (zct (zbc zb7 (pv 1) zan)) zgl))),?_⟩
  refine⟨_,rfl,_,rfl,_,rfl,a,_,rfl,SqL.of ha,λr1 n1=>?_⟩
  have s1:=zaj (o:=HO.lst (zpw (xs.map V.int) none (some (j:Int)))) n1
  refine⟨(by show 1<=sizeLine;decide),λl hl=>?_⟩
  have s2:=zaj (o:=HO.lst [V.int 0]) hl
  refine⟨r1,l,_,_,rfl,rfl,s2 _ _ zad,zad,?_,λr2 n2=>?_⟩
  ·rw[zpv,qec,qe2];exact big (by simp;lia)
  have s3:=zaj (o:=HO.lst (zpw (xs.map V.int) none (some (j:Int))++[V.int 0])) n2
  have S:=(s1.trans s2).trans s3
  have ej:((j:Int)+1)=((j+1:Nat):Int):=by lia
  refine⟨_,rfl,_,rfl,_,_,rfl,rfl,_,rfl,a,_,rfl,SqL.of (S _ _ ha),λr3 n3=>?_⟩
  have s4:=zaj (o:=HO.lst (zpw (xs.map V.int) (some ((j:Int)+1)) none)) n3
  refine⟨r2,r3,_,_,rfl,rfl,s4 _ _ zad,zad,?_,λr4 n4=>?_⟩
  ·rw[zpv,ej,zyo,qee,qec,qec,qe2,qfl];exact big (by simp;lia)
  refine q r4 _ ((S.trans s4).free n4) ((S.trans s4).trans (zaj n4 _)) ?_
  show upd _ _ _ _=_
  rw[zad,zpv,ej,zyo,qej,qej]
  rfl
theorem zw8(T:Txt K mg ad):Ok P w K mg base 4 "check_no_mark" ["rest","at"] (zzq K ad.R):=by
 have O1:=zjg (P:=P) (w:=w) (base:=base) T
 have X1:=zqz (P:=P) (w:=w) (base:=base) T
 refine T.f_check_no_mark.ok T.M zk5 (λvs H Q E h=>?_) (λf cdv A outer s H vs Q E hr h=>?_)
 ·obtain⟨a,xs,k,rfl,_⟩:=h
  rfl
 ·obtain⟨a,xs,k,rfl,ha,q1,q2⟩:=h
  refine⟨_,zaf (za9 (zce (za3 (zrq rfl) rfl T.z_any (by decide +kernel) (zaa (cN O1 (hr.mono (by decide)) zab (zaa (pv 0) zae)) zae))) (zaf (zng X1 hr zab (pv 1))) zau),?_⟩
  refine⟨_,rfl,a,xs,rfl,ha,λr1 H1 n1 s1 e1=>?_⟩
  refine⟨r1,_,rfl,SqL.of e1,_,rfl,?_⟩
  cases e:(xs.take 8).any (· != 0) with
  |true=>exact⟨_,rfl,k,rfl,q2 e⟩
  |false=>exact q1 e H1 s1
end
abbrev TOk(ad:Ad)(H:Hp):Prop:=TabOk ad.pNP lpNP qNP H
def spNear(ad:Ad):Sp:=λvs H Q _=>∃(a:Addr)(xs:List Int)(p:Nat)(z:Int),vs=[.ref a]/\LI H a xs/\xs.length=32/\Kp168.nearest (xs.drop 8)=some (p,z)/\TOk ad H/\∀H',SameT H H'->TOk ad H'->Q (.int ((8+p:Nat):Int)) H'
def idx(xs:List Int)(k:Nat):List Int:=((qfk k).filter λj=>xs.getD (8+j) 0 != 0).map λ(j:Nat)=>(8:Int)+(j:Int)
theorem qay(xs:List Int)(k:Nat):idx xs (k+1)=if xs.getD (8+k) 0=0 then idx xs k else idx xs k++[(8:Int)+(k:Int)]:=by
 unfold idx
 rw[qhw,qii,qej]
 by_cases h:xs.getD (8+k) 0=0
 ·have e:((List.filter (λj=>xs.getD (8+j) 0 != 0) [k]))=[]:=by
   rw[List.filter_cons_of_neg (by rw[h];decide)];rfl
  rw[if_pos h,e,qhq,qfe]
 ·have e:((List.filter (λj=>xs.getD (8+j) 0 != 0) [k]))=[k]:=by
   rw[List.filter_cons_of_pos (by rw[bne_iff_ne];exact h)];rfl
  rw[if_neg h,e];rfl
theorem qdw(xs:List Int)(k:Nat):(idx xs k).length<=k:=by
 unfold idx;rw[qec]
 exact qfq (qjc _ _) (by simp)
theorem idx_mem{xs:List Int}{k:Nat}{n:Int}:n∈idx xs k↔∃j:Nat,j<k/\xs.getD (8+j) 0≠0/\n=8+j:=by
 unfold idx
 simp only[qe1,qgb,qgo,bne_iff_ne]
 constructor
 ·rintro ⟨j,⟨h1,h2⟩,rfl⟩;exact⟨j,h1,h2,rfl⟩
 ·rintro ⟨j,h1,h2,rfl⟩;exact⟨j,⟨h1,h2⟩,rfl⟩
theorem zuw(xs:List Int)(k:Nat):(idx xs k).Pairwise (·<·):=by
 unfold idx
 rw[List.pairwise_map]
 refine List.Pairwise.filter _ (List.Pairwise.imp ?_ List.pairwise_lt_range)
 intro a b h;lia
theorem qbs(xs:List Int)(j:Nat):zgw xs (8+(j:Int))=(((xs.drop 8).getD j 0).natAbs:Int):=by
 unfold zgw
 have e1:((8:Int)+(j:Int)).toNat=8+j:=by lia
 have e2:(xs.drop 8).getD j 0=xs.getD (8+j) 0:=by simp[qgm]
 rw[e1,e2]
 dsimp only
 split <;> lia
theorem zq7{xs:List Int}{p:Nat}{z:Int}(hz:xs.length=32)(h:Kp168.nearest (xs.drop 8)=some (p,z)){i:Nat}{n:Int}(hi:(idx xs 24)[i]?=some n)(hb:∀j m,(idx xs 24)[j]?=some m->zgw xs n<=zgw xs m/\(j<i->zgw xs n<zgw xs m)):n=((8+p:Nat):Int):=by
 have hN:=Mir.nearest_some.mp h
 have hl:(xs.drop 8).length=24:=by simp[hz]
 rw[hl]at hN
 obtain⟨h1,h2,h3,h4⟩:=hN
 obtain⟨q,hq1,hq2,hq3⟩:=idx_mem.mp (qe7 hi)
 have g:∀j,(xs.drop 8).getD j 0=xs.getD (8+j) 0:=λj=>by simp[qgm]
 have hp:(8+(p:Int))∈idx xs 24:=idx_mem.mpr ⟨p,h1,by rw[<-g,h2];exact h3,rfl⟩
 obtain⟨j,hj⟩:=List.getElem?_of_mem hp
 obtain⟨b1,b2⟩:=hb j _ hj
 subst hq3
 rw[qbs,qbs,h2]at b1 b2
 obtain⟨c1,c2⟩:=h4 q hq1 (by rw[g];exact hq2)
 by_cases e:q=p
 ·subst e;lia
 ·exfalso
  have hlt:p<q:=by
   by_cases l:q<p
   ·have:=c2 l;lia
   ·lia
  have hs:=zuw xs 24
  have hji:j<i:=by
   by_cases l:j<i
   ·exact l
   ·exfalso
    obtain⟨hi1,hi2⟩:=qef.mp hi
    obtain⟨hj1,hj2⟩:=qef.mp hj
    by_cases l2:i=j
    ·subst l2;rw[hi2]at hj2;lia
    ·have:=List.pairwise_iff_getElem.mp hs i j hi1 hj1 (by lia)
     rw[hi2,hj2]at this
     lia
  have:=b2 hji
  lia
section
variable{P:Program}{w:World}{K:qed}{mg:Str->Option Value}{base:Heap}{ad:Ad}
theorem qde(T:Txt K mg ad)(hK:K.In base)(hB:base.BuiltinsAt mg ad.pNP):Ok P w K mg base 1 "nearest_place" ["rest"] (spNear ad):=by
 obtain⟨t1,hM⟩:=T.k_MARKS
 have C:PySem.W.CodeHd base ad.cNP ad.pNP:=by
  obtain⟨_,_,_,_,_,_,_,_,_,_,_,_,_,_,c⟩:=T.c_np
  exact c base hK
 refine T.c_np.ok T.M c_nearest_place (λvs H Q E h=>?_) (λf A outer s H vs Q E hr h=>?_)
 ·obtain⟨a,xs,p,z,rfl,_⟩:=h
  rfl
 ·obtain⟨a,xs,p,z,rfl,ha,hz,hn,ht,q⟩:=h
  refine⟨_,zac (znf (i:=1) (own:=[("index",2)]) rfl c_nearest_place.nd rfl rfl (by rfl) (zwp rfl T.z_range (zaa (zav (v:=.int 8) rfl hM ⟨_,rfl⟩) (zaa (za3 za7 rfl T.z_len (by decide +kernel) (zaa (pv 0) zae)) zae))) (zbr (by rfl))
   (λ_ _ _ _ _=>zbj (i:=2) c_nearest_place.nd rfl (Or.inl rfl)) (λ_ _ _ _ _=>qc0 (zas zo7 (zdt (r:=rIxL K) zfl (pv 0) (pv 2) (λ_ _=>rfl)) zan (zaz _))) (λ_ _ _ _ _=>pv 2))
   (zaf (zaq (zws (c:=ad.cNP) (P:=ad.pNP) (qual:=qNP) rfl C hB hr rfl T.z_min T.z_abs rfl rfl rfl rfl rfl))),?_⟩
  refine⟨_,rfl,a,_,rfl,.inl (SqL.of ha),8,_,rfl,?_,λD hD=>?_⟩
  ·rw[qec,hz];decide
  have e24:((((xs.map V.int).length:Nat):Int) - 8).toNat=24:=by rw[qec,hz];rfl
  rw[e24]
  refine zta (λk H'=>Same H H'/\H' D=some (.lst ((idx xs k).map V.int))) ⟨zaj hD _,by rw[zad];rfl⟩ (λk H' hk ⟨s1,e1⟩=>?_) λH' ⟨s1,e1⟩=>?_
  ·have hk2:8+k<xs.length:=by lia
   refine⟨rfl,_,rfl,_,rfl,a,_,_,_,rfl,rfl,SqL.of (s1 _ _ ha),at_of (j:=8+k) (v:=.int (xs.getD (8+k) 0)) (by lia) (by rw[qeh,qe3 hk2];simp[hk2]),rfl,_,rfl,?_⟩
   rw[ne0,qay]
   by_cases h0:xs.getD (8+k) 0=0
   ·rw[decide_eq_true h0,if_pos h0]
    exact⟨s1,e1⟩
   ·rw[decide_eq_false h0,if_neg h0]
    refine⟨_,rfl,_,e1,?_,zay s1 hD _,?_⟩
    ·rw[qec];have:=qdw xs k;exact zg4 (by lia)
    ·rw[zad,qej];rfl
  ·have hN:=Mir.nearest_some.mp hn
   have hl:(xs.drop 8).length=24:=by simp[hz]
   rw[hl]at hN
   have hp:(8+(p:Int))∈idx xs 24:=idx_mem.mpr ⟨p,hN.1,by have g:(xs.drop 8).getD p 0=xs.getD (8+p) 0:=by simp[qgm]
                                                         rw[<-g,hN.2.1];exact hN.2.2.1,rfl⟩
   refine⟨a,D,xs,idx xs 24,rfl,rfl,s1 _ _ ha,e1,List.length_pos_of_mem hp,λn hn=>?_,ht.same s1,λi n H2 hi hb s2 t2=>?_⟩
   ·obtain⟨j,h1,_,rfl⟩:=idx_mem.mp hn
    lia
   ·have e:=zq7 hz hn hi hb
    have g:=q H2 (s1.t.trans s2) t2
    show Q (.int n) H2
    rw[e]
    exact g
end
end U
namespace L2
open PySem
theorem th0{X:Cx}:zb9 X (λ_ _ _=>False):=λ_ _ _ _ _ _ _ _ _ _ _ _ h=>h.elim
theorem Ok.imp{P:Program}{w:World}{K:qed}{mg:Str->Option Value}{base:Heap}{k:Nat}{x:Str}{ps:List Str}{sp sp':Sp}(O:Ok P w K mg base k x ps sp)(h:∀vs H Q E,sp' vs H Q E->sp vs H Q E):Ok P w K mg base k x ps sp':=by
 obtain⟨f,fd,h1,h2,h3,F⟩:=O
 exact⟨f,fd,h1,h2,h3,F.imp h⟩
end L2
namespace U
open PySem L2 Mir
open Kp168 (Row nought ofPlace ofMark mul pow Filling itself filled nearest)
abbrev zca(H:Hp)(p:Addr)(r:Row):Prop:=LI H p (za6 r)
theorem zha(r:Row):inB 1073741824 (za6 r)=Kp168.small r:=by
 have hM:Kp168.MOST=1073741824:=by decide
 unfold inB Kp168.small za6
 rw[hM]
theorem zse(r:Row):inB 1048576 (za6 r)=zy7 r:=by
 have hM:Kp168.IN=1048576:=by decide
 unfold inB zy7
 rw[hM]
theorem zhv(l:List Int):l.any (· != 0)=!Kp168.empty l:=by
 unfold Kp168.empty
 rw[List.any_eq_not_all_not]
 have e:(λx:Int=>!(x != 0))=λx=>x == 0:=by funext x;simp[bne]
 rw[e]
theorem zyc{s:List Row}{e:Row}(he:WF e)(hs:∀x∈s,WF x):qd1 (za6 e) (s.map za6)=za6 (filled s e):=by
 rw[<-zpr he hs]
 unfold qd1 zyd
 rw[zcp he,zdq he]
 have zh1:e.mark++qem 24 (0:Int)=za6 { nought with mark:=e.mark }:=rfl
 rw[zh1]
 have gen:∀(s:List Row)(l:List Int)(acc:Row),WF acc->(∀x∈s,WF x)->(qg8 (s.map za6) l).foldl zlz (za6 acc)=za6 ((qg8 s l).foldl zcy acc):=by
  intro s
  induction s with
  |nil=>intro l acc _ _;simp
  |cons y s ih=>
   intro l acc ha hs
   cases l with
   |nil=>simp
   |cons k l=>
    have hy:=hs y qfw
    rw[qfh,qhr,qhr,qf7,qf7]
    have e1:zlz (za6 acc) (za6 y,k)=za6 (zcy acc (y,k)):=by
     unfold zlz zcy
     dsimp only
     split
     ·rfl
     ·rw[znw,znx ha (zbv k hy)]
    rw[e1]
    exact ih l _ (zjr ha hy) λx hx=>hs x (qfa _ hx)
 exact gen s e.place _ (zfu he) hs
theorem zya{r:Row}{p:Nat}(h:WF r)(hp:p<24):(za6 r)[8+p]?=some (pl r p):=by
 unfold za6 pl
 rw[qge (by rw[h.m];lia),h.m]
 have:p<r.place.length:=by rw[h.p];exact hp
 rw[show 8+p - 8=p by lia,qe3 this]
 simp[this]
theorem zq8{y q:Row}{p:Nat}(hy:WF y)(hq:WF q)(h0:pl y p≠0):qeu (λu v=>u - v) (za6 y) ((za6 q).map (·*pl y p))=za6 (zbb y p q):=by
 unfold zbb
 rw[if_neg h0,znw,zny hy (zbv _ hq)]
theorem pl_b{r:Row}(h:Kp168.small r=true)(hr:WF r)(p:Nat):-(2 ^ 64)<pl r p/\pl r p<2 ^ 64:=by
 have:=znb h hr p
 have e:(2:Nat) ^ 30=1073741824:=by decide
 rw[e]at this
 have e2:(2:Int) ^ 64=18446744073709551616:=by decide
 rw[e2]
 lia
theorem mem_b{b:Int}(hb:b<=1073741824){xs:List Int}(h:inB b xs=true):∀x∈xs,-(2 ^ 64)<x/\x<2 ^ 64:=λx hx=>by
 have:=qeo.mp h x hx
 simp only[qev,decide_eq_true_eq]at this
 have e2:(2:Int) ^ 64=18446744073709551616:=by decide
 rw[e2]
 lia
def spFilR:Sp:=λvs H Q _=>∃(a b:Addr)(e:Row)(rs:List Addr)(s:List Row),vs=[.ref a,.ref b]/\zca H a e/\H b=some (.lst (rs.map V.ref))/\Rows H rs (s.map za6)/\WF e/\(∀x∈s,WF x)/\s.length<=24/\Kp168.small e=true ∧
 ∀r H',H r=none->Same H H'->zca H' r (filled s e)->Q (.ref r) H'
def spBndR(K:qed)(R:Addr):Sp:=λvs H Q E=>∃(a:Addr)(r:Row)(k:Int),vs=[.ref a,.int k]/\zca H a r/\WF r/\(Kp168.small r=true->Q (.ref a) H)/\(Kp168.small r=false->zaw K R E (-75) k)
def spQuoR:Sp:=λvs H Q _=>∃(a:Addr)(r:Row)(p:Nat),vs=[.ref a,.int ((8+p:Nat):Int)]/\zca H a r/\WF r/\p<24/\Kp168.small r=true/\pl r p≠0/\∀b H',Same H H'->zca H' b (ze0 r p (pl r p))->Q (.ref b) H'
def spNarR:Sp:=λvs H Q _=>∃(a b:Addr)(y q:Row)(p:Nat),vs=[.ref a,.int ((8+p:Nat):Int),.ref b]/\zca H a y/\zca H b q/\WF y/\WF q/\p<24/\Kp168.small y=true/\∀c H',Same H H'->zca H' c (zbb y p q)->Q (.ref c) H'
def spWitR:Sp:=λvs H Q _=>∃(a:Addr)(r:Row)(p:Nat),vs=[.ref a,.int ((8+p:Nat):Int)]/\zca H a r/\WF r/\p<24/\∀b H',Same H H'->zca H' b (drop1 r p)->Q (.ref b) H'
def spNoMR(K:qed)(R:Addr):Sp:=λvs H Q E=>∃(a:Addr)(r:Row)(k:Int),vs=[.ref a,.int k]/\zca H a r/\WF r/\(Kp168.empty r.mark=true->∀H',Same H H'->Q .non H')/\(Kp168.empty r.mark=false->zaw K R E (-61) k)
def spNeaR(ad:Ad):Sp:=λvs H Q _=>∃(a:Addr)(r:Row)(p:Nat)(z:Int),vs=[.ref a]/\zca H a r/\WF r/\nearest r.place=some (p,z)/\TOk ad H/\∀H',SameT H H'->TOk ad H'->Q (.int ((8+p:Nat):Int)) H'
section
variable{P:Program}{w:World}{K:qed}{mg:Str->Option Value}{base:Heap}{ad:Ad}
theorem zxb(T:Txt K mg ad):Ok P w K mg base 2 "filled_in" ["product","filling"] spFilR:=(zxa T).imp λvs H Q E ⟨a,b,e,rs,s,h1,h2,h3,h4,h5,h6,h7,h8,q⟩=>
 ⟨a,b,za6 e,rs,s.map za6,h1,h2,h3,h4,zbf h5,λz hz=>by obtain⟨x,hx,rfl⟩:=qe1.mp hz;exact zbf (h6 x hx),by rw[Rows.len h4,qec];exact h7,mem_b (Int.le_refl _) (by rw[zha];exact h8),by rw[zyc h5 h6];exact q⟩
theorem znm(T:Txt K mg ad):Ok P w K mg base 4 "bounded" ["product","at"] (spBndR K ad.R):=(zul T).imp λvs H Q E ⟨a,r,k,h1,h2,h3,h4,h5⟩=>
 ⟨a,za6 r,k,h1,h2,by rw[zbf h3];decide,λz=>h4 (by rw[<-zha];exact z),λz=>h5 (by rw[<-zha];exact z)⟩
theorem qdc(T:Txt K mg ad):Ok P w K mg base 1 "quotients" ["rest","index"] spQuoR:=(qdb T).imp λvs H Q E ⟨a,r,p,h1,h2,h3,h4,h5,h6,q⟩=>
 ⟨a,za6 r,8+p,pl r p,h1,h2,by rw[zbf h3];decide,zya h3 h4,h6,znb h5 h3 p,λb H' _ s e=>q b H' s (by rw[zx9 h3]at e;exact e)⟩
theorem qdg(T:Txt K mg ad):Ok P w K mg base 2 "narrowed" ["product","index","taken"] spNarR:=(zqx T).imp λvs H Q E ⟨a,b,y,q,p,h1,h2,h3,h4,h5,h6,h7,k⟩=>
 ⟨a,b,za6 y,za6 q,8+p,pl y p,h1,h2,h3,by rw[zbf h4];decide,by rw[zbf h5];decide,zya h4 h6,pl_b h7 h4 p,
  λz=>k a H (Same.refl _) (by unfold zbb;rw[if_pos z];exact h2),λz c H' _ s e=>k c H' s (by rw[zq8 h4 h5 z]at e;exact e)⟩
theorem qc8(T:Txt K mg ad):Ok P w K mg base 1 "without" ["product","index"] spWitR:=(zuh T).imp λvs H Q E ⟨a,r,p,h1,h2,h3,h4,q⟩=>
 ⟨a,za6 r,8+p,h1,h2,by rw[zbf h3];decide,λb H' _ s e=>q b H' s (by rw[zuy h3 h4]at e;exact e)⟩
theorem qdd(T:Txt K mg ad):Ok P w K mg base 4 "check_no_mark" ["rest","at"] (spNoMR K ad.R):=(zw8 T).imp λvs H Q E ⟨a,r,k,h1,h2,h3,h4,h5⟩=>
 ⟨a,za6 r,k,h1,h2,λz=>h4 (by rw[zdq h3,zhv]at z;simpa using z),λz=>h5 (by rw[zdq h3,zhv]at z;simpa using z)⟩
theorem qdf(T:Txt K mg ad)(hK:K.In base)(hB:base.BuiltinsAt mg ad.pNP):Ok P w K mg base 1 "nearest_place" ["rest"] (spNeaR ad):=(qde T hK hB).imp λvs H Q E ⟨a,r,p,z,h1,h2,h3,h4,h5,q⟩=>
 ⟨a,za6 r,p,z,h1,h2,zbf h3,by rw[zcp h3];exact h4,h5,q⟩
end
theorem Rows.push{H:Hp}:∀{rs:List Addr}{ss:List (List Int)}{r:Addr}{s:List Int},Rows H rs ss->LI H r s->Rows H (rs++[r]) (ss++[s])
 |_,_,_,_,.nil,h=>.cons h .nil
 |_,_,_,_,.cons a t,h=>.cons a (Rows.push t h)
theorem Rows.sameT{H H':Hp}(s:SameT H H'){rs:List Addr}{ss:List (List Int)}(h:Rows H rs ss):Rows H' rs ss:=Paired.mapP h λa b q=>s _ _ q (λ_ z=>nomatch z)
theorem _root_.L2.SameT.lst{H H':Hp}(s:SameT H H'){p:Addr}{xs:List V}(h:H p=some (.lst xs)):H' p=some (.lst xs):=s _ _ h (λ_ z=>nomatch z)
theorem LI.off{H:Hp}{q D:Addr}{l:List Int}{xs:List Addr}(h:LI H q l)(hl:l≠[])(hD:H D=some (.lst (xs.map V.ref))):q≠D:=λz=>by
 subst z
 rw[show H q=some (.lst (l.map V.int)) from h]at hD
 cases l with
 |nil=>exact hl rfl
 |cons a l=>
  cases xs with
  |nil=>simp at hD
  |cons x xs=>simp at hD
theorem Rows.off{H:Hp}{D:Addr}{xs:List Addr}{o:HO}(hD:H D=some (.lst (xs.map V.ref))):∀{rs:List Addr}{ss:List (List Int)},Rows H rs ss->(∀l∈ss,l≠[])->Rows (upd H D o) rs ss
 |_,_,.nil,_=>.nil
 |_,_,.cons (a:=a) (b:=b) h t,hl=>.cons (by show upd _ _ _ _=_;rw[zah (LI.off h (hl _ qfw) hD)];exact h) (Rows.off hD t λl m=>hl l (qfa _ m))
theorem zdr{r:Row}(h:WF r):za6 r≠[]:=λz=>by have:=zbf h;rw[z]at this;cases this
def zvz(K:qed)(ad:Ad):Sp:=λvs H Q E=>∃(b a:Addr)(s:List Row)(e:Row)(n:Nat)(k:Int)(rs:List Addr),vs=[.ref b,.ref a,.int k]/\H b=some (.lst (rs.map V.ref))/\Rows H rs (s.map za6)/\zca H a e/\SOk n s/\s.all Kp168.small=true/\WF e/\Lo n e/\Kp168.small e=true/\TOk ad H ∧
 match zcl n s e with
 |.inl v=>zaw K ad.R E v k
 |.inr t=>∀(b':Addr)(rs':List Addr)(s':List Row)(H':Hp),t=zgy n s'->SOk n s'->s'.all Kp168.small=true->H' b'=some (.lst (rs'.map V.ref))->Rows H' rs' (s'.map za6)->SameT H H'->TOk ad H'->Q (.ref b') H'
def Wants(K:qed)(ad:Ad)(n:Nat)(k:Int)(H:Hp)(Q:VK)(E:XK):Res->Prop
 |.inl v=>zaw K ad.R E v k
 |.inr t=>∀(b':Addr)(rs':List Addr)(s':List Row)(H':Hp),t=zgy n s'->SOk n s'->s'.all Kp168.small=true->H' b'=some (.lst (rs'.map V.ref))->Rows H' rs' (s'.map za6)->SameT H H'->TOk ad H'->Q (.ref b') H'
structure Turn7(ad:Ad)(n:Nat)(k:Int)(a:Addr)(H0:Hp)(res:Res)(m:Nat)(σ:St)(H:Hp):Prop where
 ex:∃(b r':Addr)(rs:List Addr)(s:List Row)(r:Row)(fl:Bool)(ix:Nat)(v6 v7:Option V),σ=[some (.ref b),some (.ref a),some (.int k),some (.ref r'),some (.int ix),some (.bl fl),v6,v7]/\SameT H0 H/\TOk ad H/\H b=some (.lst (rs.map V.ref))/\Rows H rs (s.map za6)/\zca H r' r ∧
  SOk n s/\s.all Kp168.small=true/\WF r/\Lo n r/\Kp168.small r=true ∧
  (fl=true->∃p z f,nearest r.place=some (p,z)/\z.natAbs<f/\z.natAbs<m/\Kp168.one f (zgy n s) r=res) ∧
  (fl=false->∃p,ix=8+p/\p<n/\p<24/\res=if Kp168.empty r.mark then .inr (zgy n (s.map λy=>drop1 y p)) else .inl (-61))
theorem zqp{r:Row}{p:Nat}(h:Kp168.small r=true):Kp168.small (drop1 r p)=true:=by
 unfold Kp168.small at h ⊢
 rw[qeo]at h ⊢
 intro x hx
 rcases qeq.mp hx with hx|hx
 ·exact h x (qft _ hx)
 ·rcases qgw hx with hx|hx
  ·exact h x (qfi _ hx)
  ·subst hx;decide
section
variable{P:Program}{w:World}{K:qed}{mg:Str->Option Value}{base:Heap}{ad:Ad}
theorem zuj(T:Txt K mg ad)(hK:K.In base)(hB:base.BuiltinsAt mg ad.pNP):Ok P w K mg base 6 "settled" ["filling","equation","at"] (zvz K ad):=by
 have O1:=zxb (P:=P) (w:=w) (base:=base) T
 have O2:=znm (P:=P) (w:=w) (base:=base) T
 have O3:=qdc (P:=P) (w:=w) (base:=base) T
 have O4:=qdg (P:=P) (w:=w) (base:=base) T
 have O5:=qc8 (P:=P) (w:=w) (base:=base) T
 have O6:=qdd (P:=P) (w:=w) (base:=base) T
 have O7:=qdf (P:=P) (w:=w) T hK hB
 have O8:=zfh (P:=P) (w:=w) (base:=base) T
 refine T.f_settled.ok T.M c_settled (λvs H Q E h=>?_) (λf cdv A outer s0 H vs Q E hr h=>?_)
 ·obtain⟨b,a,s,e,n,k,rs,rfl,_⟩:=h
  rfl
 ·obtain⟨b,a,s,e,n,k,rs,rfl,hb,hR,ha,so,ssm,we,le,te,ht,q⟩:=h
  have q:Wants K ad n k H Q E (zcl n s e):=q
  have h1:Room 1 _:=hr.mono (by decide:1<=5)
  have h2:Room 2 _:=hr.mono (by decide:2<=5)
  have h4:Room 4 _:=hr.mono (by decide:4<=5)
  refine⟨_,zac (zap (i:=3) c_settled.nd rfl (Or.inl rfl) (cN O2 h4 zab (zaa (cN O1 h2 zab (zaa (pv 1) (zaa (pv 0) zae))) (zaa (pv 2) zae))))
   (zac (za9 (zmn (zce (za3 (zrq rfl) rfl T.z_any (by decide +kernel) (zaa (cN O8 h1 zab (zaa (pv 3) zae)) zae)))) (zac (zal (cN O6 h4 zab (zaa (pv 3) (zaa (pv 2) zae)))) (zaf (zaq (pv 0)))) zau)
   (zac (zap (i:=4) c_settled.nd rfl (Or.inr rfl) zan)
   (zac (zap (i:=5) c_settled.nd rfl (Or.inl rfl) zo3)
   (zac (zd0 zbl (zce (pv 5))
    (zac (zap (i:=4) c_settled.nd rfl (Or.inr rfl) (cN O7 h1 zab (zaa (pv 3) zae)))
    (zac (zap (i:=6) c_settled.nd rfl (Or.inr rfl) (cN O3 h1 zab (zaa (pv 3) (zaa (pv 4) zae))))
    (zac (zo1 (i:=0) (own:=[("product",7)]) zab rfl rfl rfl c_settled.nd rfl rfl (by rfl) (zb2 (pv 0)) (zbr (by rfl)) (λ_ _ _ _ _=>zbj (i:=7) c_settled.nd rfl (Or.inl rfl)) (λ_ _ _ _ _=>zco)
     (λ_ _ _ _ _ _ th=>cN O2 h4 th (zaa (cN O4 h2 th (zaa (pv 7) (zaa (pv 4) (zaa (pv 6) zae)))) (zaa (pv 2) zae))))
    (zac (zap (i:=3) c_settled.nd rfl (Or.inl rfl) (cN O2 h4 zab (zaa (cN O4 h2 zab (zaa (pv 3) (zaa (pv 4) (zaa (pv 6) zae)))) (zaa (pv 2) zae))))
    (zaf (zap (i:=5) c_settled.nd rfl (Or.inl rfl) (za3 (zrq rfl) rfl T.z_any (by decide +kernel) (zaa (cN O8 h1 zab (zaa (cN O5 h1 zab (zaa (pv 3) (zaa (pv 4) zae))) zae)) zae)))))))))
   (zac (zal (cN O6 h4 zab (zaa (pv 3) (zaa (pv 2) zae))))
   (zaf (zaq (zlt (own:=[("product",7)]) rfl c_settled.nd (zb2 (pv 0)) (zbr (by rfl)) (λ_ _ _ _ _=>zbj (i:=7) c_settled.nd rfl (Or.inl rfl)) (λ_ _ _ _ _=>zco) (λ_ _ _ _ _=>cN O5 h1 th0 (zaa (pv 7) (zaa (pv 4) zae))))))))))),?_⟩
  have wfe:WF (filled s e):=zbs we so.wf
  have lfe:Lo n (filled s e):=zpd we so.wf so.lo
  refine⟨_,rfl,_,rfl,a,b,e,rs,s,rfl,ha,hb,hR,we,so.wf,(by rw[so.len];exact so.le),te,λr1 H1 n1 s1 e1=>?_⟩
  refine⟨_,rfl,r1,filled s e,k,rfl,e1,wfe,λsm=>?_,λsm=>?_⟩
  rotate_left
  ·have es:zcl n s e=.inl (-75):=by unfold zcl;rw[if_pos sm]
   rw[es]at q
   exact q
  have es:zcl n s e=Kp168.one Kp168.STEPS (zgy n s) (filled s e):=by unfold zcl;rw[if_neg (by rw[sm];decide)]
  have e30:(2:Nat) ^ 30=1073741824:=by decide
  have e31:Kp168.STEPS=2147483647+1:=by decide
  refine⟨_,rfl,r1,_,rfl,e1,λr2 H2 n2 s2 e2=>⟨r2,_,rfl,SqL.of e2,_,rfl,?_⟩⟩
  rw[zcp wfe,zhv]
  cases em:Kp168.empty (filled s e).place with
  |true=>
   have hn:nearest (filled s e).place=none:=nearest_none.mpr (empty_iff.mp em)
   rw[e31,zsz hn]at es
   refine⟨_,rfl,_,rfl,r1,filled s e,k,rfl,s2 _ _ e1,wfe,λmk H3 s3=>?_,λmk=>?_⟩
   ·rw[mk]at es
    rw[es]at q
    have S:=s1.trans (s2.trans s3)
    exact⟨_,rfl,q b rs s H3 rfl so ssm (S _ _ hb) (hR.same S) S.t (ht.same S)⟩
   ·rw[mk]at es
    rw[es]at q
    exact q
  |false=>
   obtain⟨p0,z0,hn0⟩:∃p z,nearest (filled s e).place=some (p,z):=by
    cases hc:nearest (filled s e).place with
    |none=>exact absurd (empty_iff.mpr (nearest_none.mp hc)) (by rw[em];decide)
    |some x=>exact⟨x.1,x.2,rfl⟩
   have S2:=s1.trans s2
   refine⟨Turn7 ad n k a H (zcl n s e),⟨2147483648,?_⟩,?_⟩
   ·obtain⟨_,_,hpl,_⟩:=zic wfe lfe hn0
    have hb0:=znb sm wfe p0
    rw[hpl,e30]at hb0
    refine⟨b,r1,rs,s,filled s e,true,0,none,none,rfl,S2.t,ht.same S2,S2 _ _ hb,hR.same S2,s2 _ _ e1,so,ssm,wfe,lfe,sm,λ_=>⟨p0,z0,Kp168.STEPS,hn0,by rw[e31];lia,by lia,es.symm⟩,λz=>by cases z⟩
   ·rintro m σ H3 ⟨b',r',rs',s',r,fl,ix,v6,v7,rfl,st,tb,hb',hR',hr',so',ssm',wr,lr,smr,g1,g2⟩
    refine⟨_,rfl,fl,rfl,?_⟩
    cases fl with
    |true=>
     obtain⟨p,z,f,hn,hzf,hzm,ho⟩:=g1 rfl
     obtain⟨hpn,hp24,hpl,hz0⟩:=zic wr lr hn
     obtain⟨f,rfl⟩:∃f',f=f'+1:=⟨f - 1,by lia⟩
     rw[zsy so' wr lr hn]at ho
     obtain⟨to1,to2,to3⟩:=zvt so' wr lr hn
     refine⟨λσ' H'=>∃m',m'<m/\Turn7 ad n k a H (zcl n s e) m' σ' H',λσ' H' h=>h,?_⟩
     refine⟨_,rfl,r',r,p,z,rfl,hr',wr,hn,tb,λH4 s4 t4=>?_⟩
     refine⟨_,rfl,_,rfl,r',r,p,rfl,s4.lst hr',wr,hp24,smr,(by rw[hpl];exact hz0),λbq H5 s5 e5=>?_⟩
     rw[hpl]at e5
     have S5:=s4.trans s5.t
     have R5:=hR'.sameT S5
     refine⟨_,rfl,b',rfl,⟨_,SqL.of (S5.lst hb')⟩,λD hD=>?_⟩
     have wq:WF (ze0 r p z):=zvn p z wr
     refine zfk (xs:=rs'.map V.ref) (λi H6=>∃rs2,Same H5 H6/\H6 D=some (.lst (rs2.map V.ref))/\Rows H6 rs2 (((s'.take i).map λy=>zbb y p (ze0 r p z)).map za6)/\((s'.take i).map λy=>zbb y p (ze0 r p z)).all Kp168.small=true)
      ⟨[],zaj hD _,by rw[zad];rfl,by rw[qjd];exact Paired.nil,rfl⟩ (λi H6 _ ⟨_,s6,_⟩=>SqL.of (s6 _ _ (S5.lst hb'))) (λi x H6 hx ⟨rs2,s6,e6,R6,all6⟩=>?_) λH6 ⟨rs2,s6,e6,R6,all6⟩=>?_
     ·rw[qeh]at hx
      obtain⟨g,hg,rfl⟩:=qei.mp hx
      obtain⟨sg,hsg,eg⟩:=(R5.same s6).get hg
      rw[qeh]at hsg
      obtain⟨y,hy,rfl⟩:=qei.mp hsg
      have my:=qe7 hy
      have wy:=so'.wf y my
      have smy:=qeo.mp ssm' y my
      have lenr:rs2.length<=24:=by
       have:=R6.len
       rw[qec,qec,qe2]at this
       have:=so'.len;have:=so'.le;lia
      refine⟨rfl,_,rfl,_,rfl,_,rfl,g,bq,y,ze0 r p z,p,rfl,eg,s6 _ _ e5,wy,wq,hp24,smy,λc H7 s7 e7=>?_⟩
      refine⟨_,rfl,c,_,k,rfl,e7,zjq wy wq,λsn=>?_,λsn=>?_⟩
      ·refine⟨_,s7 _ _ e6,by rw[qec];exact zg4 (by lia),rs2++[c],zay (s6.trans s7) hD _,by rw[zad,qej];rfl,?_,?_⟩
       ·rw[qfn,hy,qf6,qej,qej]
        refine Rows.off (s7 _ _ e6) (Rows.push (R6.same s7) e7) λl hl=>?_
        have wfn:∀y'∈s',za6 (zbb y' p (ze0 r p z))≠[]:=λy' hy'=>zdr (zjq (so'.wf y' hy') wq)
        rcases qeq.mp hl with hl|hl
        ·obtain⟨u,hu,rfl⟩:=qe1.mp hl
         obtain⟨y',hy',rfl⟩:=qe1.mp hu
         exact wfn y' (qgc hy')
        ·rw[qew.mp hl];exact wfn y my
       ·rw[qfn,hy,qf6,qej,qf3,all6]
        simp[sn]
      ·have hall:(s'.map λy=>zbb y p (ze0 r p z)).all Kp168.small=false:=by
        rw[qfd]
        intro zz
        have:=qeo.mp zz (zbb y p (ze0 r p z)) (List.mem_map_of_mem my)
        rw[sn]at this;cases this
       rw[if_pos hall]at ho
       rw[<-ho]at q
       exact q
     ·rw[qec,R5.len,qec,qf0]at R6 all6
      rw[if_neg (by rw[all6];decide)]at ho
      have S6:=S5.trans s6.t
      refine⟨_,rfl,_,rfl,_,rfl,r',bq,r,ze0 r p z,p,rfl,S6.lst hr',s6 _ _ e5,wr,wq,hp24,smr,λc H7 s7 e7=>?_⟩
      refine⟨_,rfl,c,_,k,rfl,e7,to2,λsn=>?_,λsn=>?_⟩
      ·rw[if_neg (by rw[sn];decide)]at ho
       refine⟨_,rfl,_,rfl,c,_,p,rfl,e7,to2,hp24,λd H8 s8 e8=>?_⟩
       refine⟨d,_,rfl,e8,λd2 H9 n9 s9 e9=>⟨d2,_,rfl,SqL.of e9,?_⟩⟩
       have S9:=s7.trans (s8.trans s9)
       rw[zcp (zjb p to2),zhv]
       cases em2:Kp168.empty (drop1 (zbb r p (ze0 r p z)) p).place with
       |true=>
        rw[em2,if_pos rfl]at ho
        refine⟨0,by lia,D,c,rs2,_,_,false,8+p,_,_,rfl,(st.trans S6).trans S9.t,(t4.same (s5.trans (s6.trans S9))),S9 _ _ e6,R6.same S9,(s8.trans s9) _ _ e7,to1,all6,to2,to3,sn,(λzz=>by cases zz),λ_=>⟨p,rfl,hpn,hp24,ho.symm⟩⟩
       |false=>
        rw[em2,if_neg (by decide)]at ho
        obtain⟨p',z',hn',hlt'⟩:=zty wr lr hn em2
        refine⟨z.natAbs,hzm,D,c,rs2,_,_,true,8+p,_,_,rfl,(st.trans S6).trans S9.t,(t4.same (s5.trans (s6.trans S9))),S9 _ _ e6,R6.same S9,(s8.trans s9) _ _ e7,to1,all6,to2,to3,sn,λ_=>⟨p',z',f,hn',by lia,hlt',ho⟩,λzz=>by cases zz⟩
      ·rw[if_pos sn]at ho
       rw[<-ho]at q
       exact q
    |false=>
     obtain⟨p,rfl,hpn,hp24,ho⟩:=g2 rfl
     refine⟨_,rfl,_,rfl,r',r,k,rfl,hr',wr,λmk H4 s4=>?_,λmk=>?_⟩
     ·rw[mk,if_pos rfl]at ho
      rw[ho]at q
      refine⟨_,rfl,b',rfl,⟨_,SqL.of (s4 _ _ hb')⟩,λD hD=>?_⟩
      refine zfk (xs:=rs'.map V.ref) (λi H6=>∃rs2,Same H4 H6/\H6 D=some (.lst (rs2.map V.ref))/\Rows H6 rs2 (((s'.take i).map λy=>drop1 y p).map za6))
       ⟨[],zaj hD _,by rw[zad];rfl,by rw[qjd];exact Paired.nil⟩ (λi H6 _ ⟨_,s6,_⟩=>SqL.of (s6 _ _ (s4 _ _ hb'))) (λi x H6 hx ⟨rs2,s6,e6,R6⟩=>?_) λH6 ⟨rs2,s6,e6,R6⟩=>?_
      ·rw[qeh]at hx
       obtain⟨g,hg,rfl⟩:=qei.mp hx
       obtain⟨sg,hsg,eg⟩:=(hR'.same (s4.trans s6)).get hg
       rw[qeh]at hsg
       obtain⟨y,hy,rfl⟩:=qei.mp hsg
       have my:=qe7 hy
       have wy:=so'.wf y my
       have lenr:rs2.length<=24:=by
        have:=R6.len
        rw[qec,qec,qe2]at this
        have:=so'.len;have:=so'.le;lia
       refine⟨rfl,_,rfl,_,rfl,g,y,p,rfl,eg,wy,hp24,λc H7 s7 e7=>?_⟩
       refine⟨_,s7 _ _ e6,by rw[qec];exact zg4 (by lia),rs2++[c],zay (s6.trans s7) hD _,by rw[zad,qej];rfl,?_⟩
       rw[qfn,hy,qf6,qej,qej]
       refine Rows.off (s7 _ _ e6) (Rows.push (R6.same s7) e7) λl hl=>?_
       rcases qeq.mp hl with hl|hl
       ·obtain⟨u,hu,rfl⟩:=qe1.mp hl
        obtain⟨y',hy',rfl⟩:=qe1.mp hu
        exact zdr (zjb p (so'.wf y' (qgc hy')))
       ·rw[qew.mp hl];exact zdr (zjb p wy)
      ·rw[qec,hR'.len,qec,qf0]at R6
       have S:=s4.trans s6
       refine q D rs2 _ H6 rfl (zox so' hpn) ?_ e6 R6 (st.trans S.t) (tb.same S)
       rw[qeo]
       intro x hx
       obtain⟨y,hy,rfl⟩:=qe1.mp hx
       exact zqp (qeo.mp ssm' y hy)
     ·rw[mk,if_neg (by decide)]at ho
      rw[ho]at q
      exact q
end
def zzk(K:qed)(ad:Ad):Sp:=λvs H Q E=>∃(b:Addr)(es:List Row)(rs:List Addr)(n:Nat)(k:Int),vs=[.ref b,.int n,.int k]/\H b=some (.lst (rs.map V.ref))/\Rows H rs (es.map za6)/\(∀e∈es,WF e/\Lo n e)/\n<=24/\TOk ad H ∧
 match zdv n es with
 |.inl v=>zaw K ad.R E v k
 |.inr o=>∀(b':Addr)(rs':List Addr)(H':Hp),H' b'=some (.lst (rs'.map V.ref))->Rows H' rs' (o.map za6)->SOk n o->o.all Kp168.small=true->SameT H H'->TOk ad H'->Q (.ref b') H'
theorem zt1{r:Row}(h:zy7 r=true):Kp168.small r=true:=by
 rw[<-zse]at h
 rw[<-zha]
 unfold inB at h ⊢
 rw[qeo]at h ⊢
 intro x hx
 have:=h x hx
 simp only[qev,decide_eq_true_eq]at this ⊢
 lia
section
variable{P:Program}{w:World}{K:qed}{mg:Str->Option Value}{base:Heap}{ad:Ad}
theorem zw3(T:Txt K mg ad)(hK:K.In base)(hB:base.BuiltinsAt mg ad.pNP):Ok P w K mg base 7 "solved" ["equations","count","at"] (zzk K ad):=by
 have O1:=zo8 (P:=P) (w:=w) (base:=base) T
 have O2:=zs1 (P:=P) (w:=w) (base:=base) T
 have O3:=zuj (P:=P) (w:=w) T hK hB
 have X1:=zkk (P:=P) (w:=w) (base:=base) T
 obtain⟨t1,hL⟩:=T.k_LARGEST_TOLD
 refine T.f_solved.ok T.M c_solved (λvs H Q E h=>?_) (λf cdv A outer s0 H vs Q E hr h=>?_)
 ·obtain⟨b,es,rs,n,k,rfl,_⟩:=h
  rfl
 ·obtain⟨b,es,rs,n,k,rfl,hb,hR,hes,hn,ht,q⟩:=h
  have h1:Room 1 _:=hr.mono (by decide:1<=6)
  have h2:Room 2 _:=hr.mono (by decide:2<=6)
  have h3:Room 3 _:=hr.mono (by decide:3<=6)
  refine⟨_,zac (zew zbl rfl (zb2 (pv 0)) (zbj (i:=3) c_solved.nd rfl (Or.inl rfl)) (zaf (za9 (zmn (zce (cN O1 h1 zab (zaa (pv 3) (zaa (zav (v:=.int 1048576) rfl hL ⟨_,rfl⟩) zae))))) (zaf (zng X1 h3 zab (pv 2))) zau)))
   (zac (znf (i:=4) (own:=[("place",5)]) rfl c_solved.nd rfl rfl (by rfl) (zwq rfl T.z_range (zaa (pv 1) zae)) (zbr (by rfl)) (λ_ _ _ _ _=>zbj (i:=5) c_solved.nd rfl (Or.inl rfl)) (λ_ _ _ _ _=>zco) (λ_ _ _ _ _=>cN O2 h2 th0 (zaa (pv 5) zae)))
   (zac (zew zbl rfl (zb2 (pv 0)) (zbj (i:=3) c_solved.nd rfl (Or.inl rfl)) (zaf (zap (i:=4) c_solved.nd rfl (Or.inl rfl) (cN O3 hr zab (zaa (pv 4) (zaa (pv 3) (zaa (pv 2) zae)))))))
   (zaf (zaq (pv 4))))),?_⟩
  refine⟨_,rfl,b,rfl,⟨_,SqL.of hb⟩,zf4 (xs:=rs.map V.ref) (λi σ H'=>H'=H/\(∃v3,σ=[some (.ref b),some (.int n),some (.int k),v3,none,none])/\(es.take i).all zy7=true) ⟨rfl,⟨none,rfl⟩,rfl⟩ (λi σ H' _ ⟨e,_⟩=>by rw[e];exact SqL.of hb) ?_ ?_⟩
  ·rintro i x σ H' hx ⟨rfl,⟨v3,rfl⟩,hall⟩
   rw[qeh]at hx
   obtain⟨g,hg,rfl⟩:=qei.mp hx
   obtain⟨sg,hsg,eg⟩:=hR.get hg
   rw[qeh]at hsg
   obtain⟨y,hy,rfl⟩:=qei.mp hsg
   have my:=qe7 hy
   refine⟨_,rfl,g,za6 y,1048576,rfl,eg,by rw[zbf (hes y my).1];decide,_,rfl,?_⟩
   rw[zse]
   cases e:zy7 y with
   |true=>
    refine⟨rfl,⟨_,rfl⟩,?_⟩
    rw[qfn,hy,qf6,qf3,hall]
    simp[e]
   |false=>
    refine⟨_,rfl,k,rfl,?_⟩
    have:es.all zy7=false:=by
     rw[qfd]
     intro z
     have:=qeo.mp z y my
     rw[e]at this;cases this
    have es':zdv n es=.inl (-22):=by unfold zdv;rw[if_pos this]
    rw[es']at q
    exact q
  ·rintro σ H' ⟨rfl,⟨v3,rfl⟩,hall⟩
   rw[qec,hR.len,qec,qf0]at hall
   have esol:zdv n es=match zvb itself es with|.inl v=>.inl v|.inr t=>.inr (t.take n):=by unfold zdv;rw[if_neg (by rw[hall];decide)] <;> cases zvb itself es <;> rfl
   rw[esol]at q
   refine⟨_,rfl,n,rfl,(by lia),(by lia),λD hD=>?_⟩
   refine zta (λi H6=>∃rs2,Same H' H6/\H6 D=some (.lst (rs2.map V.ref))/\Rows H6 rs2 (((qfk i).map ofPlace).map za6)) ⟨[],zaj hD _,by rw[zad];rfl,Paired.nil⟩ (λi H6 hi ⟨rs2,s6,e6,R6⟩=>?_) λH6 ⟨rs2,s6,e6,R6⟩=>?_
   ·have lenr:rs2.length<=24:=by
     have:=R6.len
     rw[qec,qec,qir]at this
     lia
    have hi':i<n:=by simpa using hi
    refine⟨rfl,_,rfl,i,by simp,by lia,λc H7 n7 s7 e7=>?_⟩
    refine⟨_,s7 _ _ e6,by rw[qec];exact zg4 (by lia),rs2++[c],zay (s6.trans s7) hD _,by rw[zad,qej];rfl,?_⟩
    rw[qhw,qej,qej]
    rw[zi2 (by lia)]at e7
    refine Rows.off (s7 _ _ e6) (Rows.push (R6.same s7) e7) λl hl=>?_
    rcases qeq.mp hl with hl|hl
    ·obtain⟨u,hu,rfl⟩:=qe1.mp hl
     obtain⟨y',hy',rfl⟩:=qe1.mp hu
     exact zdr (zat _)
    ·rw[qew.mp hl];exact zdr (zat _)
   ·have hcnt:((n:Int)).toNat=n:=by simp
    have R6':Rows H6 rs2 (((qfk n).map ofPlace).map za6):=by
     first|exact R6|(rw[hcnt]at R6;exact R6)
    refine⟨_,rfl,b,rfl,⟨_,SqL.of (s6 _ _ hb)⟩,zf4 (xs:=rs.map V.ref) (λi σ H7=>∃(b':Addr)(rs':List Addr)(s':List Row)(v3 v5:Option V),σ=[some (.ref b),some (.int n),some (.int k),v3,some (.ref b'),v5]/\SameT H' H7/\TOk ad H7/\H7 b'=some (.lst (rs'.map V.ref))/\Rows H7 rs' (s'.map za6) ∧
     SOk n s'/\s'.all Kp168.small=true/\zvb (zgy n s') (es.drop i)=zvb itself es) ?_ ?_ ?_ ?_⟩
    ·refine⟨D,rs2,_,v3,none,rfl,s6.t,ht.same s6,e6,R6',zow hn,?_,by rw[zm3 hn,qgx]⟩
     rw[qeo]
     intro x hx
     obtain⟨p,_,rfl⟩:=qe1.mp hx
     exact zck p
    ·rintro i σ H7 _ ⟨b',rs',s',v3,v5,_,s7,_⟩
     exact SqL.of (s7.lst hb)
    ·rintro i x σ H7 hx ⟨b',rs',s',v3,v5,rfl,s7,t7,hb7,R7,so7,sm7,ha7⟩
     rw[qeh]at hx
     obtain⟨g,hg,rfl⟩:=qei.mp hx
     obtain⟨sg,hsg,eg⟩:=(hR.sameT s7).get hg
     rw[qeh]at hsg
     obtain⟨y,hy,rfl⟩:=qei.mp hsg
     have my:=qe7 hy
     have hdrop:es.drop i=y::es.drop (i+1):=by
      obtain⟨hi1,hi2⟩:=qef.mp hy
      rw[qfb hi1,hi2]
     rw[hdrop,zqa so7 (hes y my).1 (hes y my).2]at ha7
     refine⟨_,rfl,_,rfl,_,rfl,b',g,s',y,n,k,rs',rfl,hb7,R7,eg,so7,sm7,(hes y my).1,(hes y my).2,zt1 (qeo.mp hall y my),t7,?_⟩
     cases es':zcl n s' y with
     |inl v=>
      rw[es']at ha7
      rw[<-ha7]at q
      exact q
     |inr t=>
      rw[es']at ha7
      intro b8 rs8 s8 H8 et so8 sm8 hb8 R8 st8 t8
      subst et
      exact⟨b8,rs8,s8,_,_,rfl,s7.trans st8,t8,hb8,R8,so8,sm8,ha7⟩
    ·rintro σ H7 ⟨b',rs',s',v3,v5,rfl,s7,t7,hb7,R7,so7,sm7,ha7⟩
     rw[qec,hR.len,qec,qgl]at ha7
     rw[<-ha7]at q
     have q':∀(b':Addr)(rs':List Addr)(H'':Hp),H'' b'=some (.lst (rs'.map V.ref))->Rows H'' rs' (((zgy n s').take n).map za6)->SOk n ((zgy n s').take n)->((zgy n s').take n).all Kp168.small=true->SameT H' H''->TOk ad H''->Q (.ref b') H'':=q
     rw[zpn so7]at q'
     exact⟨_,rfl,q' b' rs' H7 hb7 R7 so7 sm7 s7 t7⟩
end
open Kp169 (Bytes Known more shift alike)
noncomputable abbrev zln:=Kp169.Kind
noncomputable def S(x:Bytes):Str:=⟨x.toArray⟩
theorem zqc{x y:Bytes}(h:S x=S y):x=y:=by
 have:=congrArg Str.cps h
 simpa [S] using this
noncomputable def kf(lo c:Addr)(n:Int):List (Str×V):=[("of",.ref lo),("comes",.ref c),("places",.int n)]
noncomputable def KindAt(ad:Ad)(H:Hp)(q:Addr)(kd:zln):Prop:=∃(dx lo c:Addr)(ors:List Addr),H q=some (.ins ad.Kind dx (kf lo c kd.places))/\H lo=some (.lst (ors.map V.ref))/\Rows H ors (kd.of.map za6)/\zca H c kd.comes
noncomputable def KnownAt(ad:Ad)(H:Hp)(d:Addr)(known:Known):Prop:=∃kvs:List (Key×V),H d=some (.dK kvs)/\kvs.length<=known.length/\∀x:Bytes,match known.find? λq=>q.1 == x with
 |some q=>∃a,zez kvs (.inr (S x))=some (.ref a)/\KindAt ad H a q.2
 |none=>zez kvs (.inr (S x))=none
noncomputable def OwnAt(H:Hp)(lo:Addr)(ps:List Bytes):Prop:=∃kvs:List (Key×V),H lo=some (.dK kvs)/\kvs.length<=ps.length/\∀x:Bytes,match ps.idxOf? x with
 |some k=>∃a,zez kvs (.inr (S x))=some (.ref a)/\zca H a (ofPlace k)
 |none=>zez kvs (.inr (S x))=none
noncomputable def wf(k:Int)(d lo:Addr)(n:Int)(le lc:Addr):List (Str×V):=[("at",.int k),("known",.ref d),("own",.ref lo),("used",.int n),("equations",.ref le),("came",.ref lc)]
noncomputable def zl9(H H':Hp):Prop:=∀a r,WF r->zca H a r->zca H' a r
theorem Same.keepR{H H':Hp}(s:Same H H'):zl9 H H':=λa r _ h=>s _ _ h
noncomputable def zm7(H:Hp)(a:Addr):Prop:=∀l:List Int,l≠[]->H a≠some (.lst (l.map V.int))
theorem zgr{H:Hp}{a:Addr}{xs:List Addr}(h:H a=some (.lst (xs.map V.ref))):zm7 H a:=λl hl z=>LI.off (q:=a) (D:=a) z hl h rfl
theorem zia{H:Hp}{a C dx:Addr}{fs:List (Str×V)}(h:H a=some (.ins C dx fs)):zm7 H a:=λl hl z=>by rw[h]at z;cases z
theorem zq5{H:Hp}{a:Addr}{kvs:List (Key×V)}(h:H a=some (.dK kvs)):zm7 H a:=λl hl z=>by rw[h]at z;cases z
theorem zee{H:Hp}{a:Addr}(n:zm7 H a)(o:HO):zl9 H (upd H a o):=λp r w h=>by
 show upd H a o p=_
 rw[zah (λz=>by subst z;exact n _ (zdr w) h)];exact h
theorem Rows.keep{H H':Hp}(k:zl9 H H'):∀{rs:List Addr}{s:List Row},(∀x∈s,WF x)->Rows H rs (s.map za6)->Rows H' rs (s.map za6)
 |_,[],_,.nil=>.nil
 |_,y::s,hw,.cons h t=>.cons (k _ _ (hw y qfw) h) (Rows.keep k (λx hx=>hw x (qfa _ hx)) t)
theorem Rows.take{H:Hp}:∀{rs:List Addr}{ss:List (List Int)}(n:Nat),Rows H rs ss->Rows H (rs.take n) (ss.take n)
 |_,_,0,_=>.nil
 |_,_,_+1,.nil=>.nil
 |_,_,n+1,.cons a t=>.cons a (Rows.take n t)
theorem Rows.drop{H:Hp}:∀{rs:List Addr}{ss:List (List Int)}(n:Nat),Rows H rs ss->Rows H (rs.drop n) (ss.drop n)
 |_,_,0,h=>h
 |_,_,_+1,.nil=>.nil
 |_,_,n+1,.cons a t=>Rows.drop n t
theorem KindAt.same{ad:Ad}{H H':Hp}(s:Same H H'){q:Addr}{kd:zln}(h:KindAt ad H q kd):KindAt ad H' q kd:=by
 obtain⟨dx,lo,c,ors,h1,h2,h3,h4⟩:=h
 exact⟨dx,lo,c,ors,s _ _ h1,s _ _ h2,h3.same s,s _ _ h4⟩
theorem KindAt.sameT{ad:Ad}{H H':Hp}(s:SameT H H'){q:Addr}{kd:zln}(h:KindAt ad H q kd):KindAt ad H' q kd:=by
 obtain⟨dx,lo,c,ors,h1,h2,h3,h4⟩:=h
 exact⟨dx,lo,c,ors,s _ _ h1 (λ_ z=>nomatch z),s _ _ h2 (λ_ z=>nomatch z),h3.sameT s,s _ _ h4 (λ_ z=>nomatch z)⟩
theorem KnownAt.sameT{ad:Ad}{H H':Hp}(s:SameT H H'){d:Addr}{known:Known}(h:KnownAt ad H d known):KnownAt ad H' d known:=by
 obtain⟨kvs,h1,h2,h3⟩:=h
 refine⟨kvs,s _ _ h1 (λ_ z=>nomatch z),h2,λx=>?_⟩
 have:=h3 x
 cases e:known.find? λq=>q.1 == x with
 |none=>rw[e]at this;exact this
 |some q=>
  rw[e]at this
  obtain⟨a,a1,a2⟩:=this
  exact⟨a,a1,a2.sameT s⟩
theorem KnownAt.get{ad:Ad}{H:Hp}{d:Addr}{known:Known}(h:KnownAt ad H d known){x:Bytes}{q:Bytes×zln}(e:(known.find? λq=>q.1 == x)=some q):∃kvs a,H d=some (.dK kvs)/\zez kvs (.inr (S x))=some (.ref a)/\KindAt ad H a q.2:=by
 obtain⟨kvs,h1,_,h3⟩:=h
 have:=h3 x
 rw[e]at this
 obtain⟨a,a1,a2⟩:=this
 exact⟨kvs,a,h1,a1,a2⟩
theorem OwnAt.keep{H H':Hp}{lo:Addr}{ps:List Bytes}(h:OwnAt H lo ps)(e:∀o,H lo=some o->H' lo=some o)(k:zl9 H H'):OwnAt H' lo ps:=by
 obtain⟨kvs,h1,h2,h3⟩:=h
 refine⟨kvs,e _ h1,h2,λx=>?_⟩
 have:=h3 x
 cases e:ps.idxOf? x with
 |none=>rw[e]at this;exact this
 |some q=>
  rw[e]at this
  obtain⟨a,a1,a2⟩:=this
  exact⟨a,a1,k _ _ (zat q) a2⟩
structure WAt(ad:Ad)(H0 H:Hp)(wk:Addr)(k:Int)(d:Addr)(ps:List Bytes)(m:MS)(dx lo le lc:Addr)(ers crs:List Addr):Prop where
 same:Same H0 H
 f1:H0 wk=none
 f2:H0 le=none
 f3:H0 lc=none
 f4:H0 lo=none
 ne:le≠lc
 ob:H wk=some (.ins ad.Work dx (wf k d lo m.s.n le lc))
 eqs:H le=some (.lst (ers.map V.ref))
 er:Rows H ers (m.s.eqs.map za6)
 came:H lc=some (.lst (crs.map V.ref))
 cr:Rows H crs (m.st.map za6)
 own:OwnAt H lo ps
 we:∀x∈m.s.eqs,WF x
 wc:∀x∈m.st,WF x
section
variable{ad:Ad}{H0 H:Hp}{wk:Addr}{k:Int}{d:Addr}{ps:List Bytes}{m:MS}{dx lo le lc:Addr}{ers crs:List Addr}
theorem WAt.toSame{H':Hp}(W:WAt ad H0 H wk k d ps m dx lo le lc ers crs)(s:Same H H'):WAt ad H0 H' wk k d ps m dx lo le lc ers crs:=
 ⟨W.same.trans s,W.f1,W.f2,W.f3,W.f4,W.ne,s _ _ W.ob,s _ _ W.eqs,W.er.same s,s _ _ W.came,W.cr.same s,W.own.keep (λo h=>s _ _ h) (Same.keepR s),W.we,W.wc⟩
theorem WAt.wle(W:WAt ad H0 H wk k d ps m dx lo le lc ers crs):wk≠le:=zf6 W.ob W.eqs (by intro z;cases z)
theorem WAt.wlc(W:WAt ad H0 H wk k d ps m dx lo le lc ers crs):wk≠lc:=zf6 W.ob W.came (by intro z;cases z)
theorem WAt.own'(W:WAt ad H0 H wk k d ps m dx lo le lc ers crs){a:Addr}{o:HO}(n:zm7 H a)(hl:lo≠a):OwnAt (upd H a o) lo ps:=W.own.keep (λu h=>by rw[zah hl];exact h) (zee n o)
theorem WAt.low(W:WAt ad H0 H wk k d ps m dx lo le lc ers crs):lo≠wk/\lo≠le/\lo≠lc:=by
 obtain⟨kvs,h1,_⟩:=W.own
 exact⟨zf6 h1 W.ob (by intro z;cases z),zf6 h1 W.eqs (by intro z;cases z),zf6 h1 W.came (by intro z;cases z)⟩
theorem WAt.used(W:WAt ad H0 H wk k d ps m dx lo le lc ers crs)(n:Nat):WAt ad H0 (upd H wk (.ins ad.Work dx (wf k d lo n le lc))) wk k d ps ⟨⟨n,m.s.eqs⟩,m.st⟩ dx lo le lc ers crs/\zl9 H (upd H wk (.ins ad.Work dx (wf k d lo n le lc))):=by
 have nr:=zia W.ob
 have kr:=zee nr (.ins ad.Work dx (wf k d lo n le lc))
 exact⟨⟨zay W.same W.f1 _,W.f1,W.f2,W.f3,W.f4,W.ne,zad,by rw[zah W.wle.symm];exact W.eqs,W.er.keep kr W.we,by rw[zah W.wlc.symm];exact W.came,W.cr.keep kr W.wc,W.own' nr W.low.1,W.we,W.wc⟩,kr⟩
theorem WAt.tell(W:WAt ad H0 H wk k d ps m dx lo le lc ers crs){a:Addr}{e:Row}(ha:zca H a e)(we:WF e):WAt ad H0 (upd H le (.lst (ers.map V.ref++[.ref a]))) wk k d ps ⟨⟨m.s.n,m.s.eqs++[e]⟩,m.st⟩ dx lo le lc (ers++[a]) crs/\zl9 H (upd H le (.lst (ers.map V.ref++[.ref a]))):=by
 have nr:=zgr W.eqs
 have kr:=zee nr (.lst (ers.map V.ref++[.ref a]))
 refine⟨⟨zay W.same W.f2 _,W.f1,W.f2,W.f3,W.f4,W.ne,by rw[zah W.wle];exact W.ob,by rw[zad,qej];rfl,?_,by rw[zah W.ne.symm];exact W.came,W.cr.keep kr W.wc,W.own' nr W.low.2.1,λx hx=>?_,W.wc⟩,kr⟩
 ·show Rows _ _ ((m.s.eqs++[e]).map za6)
  rw[qej]
  exact Rows.push (W.er.keep kr W.we) (kr _ _ we ha)
 ·rcases qeq.mp hx with hx|hx
  ·exact W.we x hx
  ·rw[qew.mp hx];exact we
theorem WAt.put(W:WAt ad H0 H wk k d ps m dx lo le lc ers crs){crs':List Addr}{st':List Row}(hr:Rows H crs' (st'.map za6))(hw:∀x∈st',WF x):WAt ad H0 (upd H lc (.lst (crs'.map V.ref))) wk k d ps ⟨m.s,st'⟩ dx lo le lc ers crs'/\zl9 H (upd H lc (.lst (crs'.map V.ref))):=by
 have nr:=zgr W.came
 have kr:=zee nr (.lst (crs'.map V.ref))
 exact⟨⟨zay W.same W.f3 _,W.f1,W.f2,W.f3,W.f4,W.ne,by rw[zah W.wlc];exact W.ob,by rw[zah W.ne];exact W.eqs,W.er.keep kr W.we,zad,hr.keep kr hw,W.own' nr W.low.2.2,W.we,hw⟩,kr⟩
theorem WAt.anew(W:WAt ad H0 H wk k d ps m dx lo le lc ers crs){lc':Addr}{crs':List Addr}{st':List Row}(h0:H0 lc'=none)(hn:le≠lc')(hl:H lc'=some (.lst (crs'.map V.ref)))(hr:Rows H crs' (st'.map za6))(hw:∀x∈st',WF x) :
  WAt ad H0 (upd H wk (.ins ad.Work dx (wf k d lo m.s.n le lc'))) wk k d ps ⟨m.s,st'⟩ dx lo le lc' ers crs'/\zl9 H (upd H wk (.ins ad.Work dx (wf k d lo m.s.n le lc'))):=by
 have nr:=zia W.ob
 have kr:=zee nr (.ins ad.Work dx (wf k d lo m.s.n le lc'))
 exact⟨⟨zay W.same W.f1 _,W.f1,W.f2,h0,W.f4,hn,zad,by rw[zah W.wle.symm];exact W.eqs,W.er.keep kr W.we,by rw[zah (zf6 hl W.ob (by intro z;cases z))];exact hl,hr.keep kr hw,W.own' nr W.low.1,W.we,hw⟩,kr⟩
end
noncomputable def spKind(ad:Ad):Sp:=λvs H Q _=>∃(p dx lo c:Addr)(n:Int),vs=[.ref p,.ref lo,.ref c,.int n]/\H p=some (.ins ad.Kind dx [])/\∀H',H' p=some (.ins ad.Kind dx (kf lo c n))->(∀b o,H b=some o->b≠p->H' b=some o)->Q .non H'
noncomputable def spWork(ad:Ad):Sp:=λvs H Q _=>∃(p dx d:Addr)(k:Int),vs=[.ref p,.int k,.ref d]/\H p=some (.ins ad.Work dx [])/\∀lo le lc H',H lo=none->H le=none->H lc=none->le≠lc->H' p=some (.ins ad.Work dx (wf k d lo 0 le lc))->H' lo=some (.dK [])->H' le=some (.lst [])->H' lc=some (.lst []) ->
 (∀b o,H b=some o->b≠p->H' b=some o)->Q .non H'
noncomputable def F1(H H':Hp)(a:Addr):Prop:=∀b o,H b=some o->b≠a->H' b=some o
theorem F1.keepR{H H':Hp}{a:Addr}(f:F1 H H' a)(n:zm7 H a):zl9 H H':=λp r w h=>f _ _ h λz=>by subst z;exact n _ (zdr w) h
theorem F1.same{H H1 H2:Hp}{a:Addr}(f:F1 H H1 a)(s:Same H1 H2):F1 H H2 a:=λb o h n=>s _ _ (f b o h n)
theorem Same.f1{H H1 H2:Hp}{a:Addr}(s:Same H H1)(f:F1 H1 H2 a):F1 H H2 a:=λb o h n=>f b o (s _ _ h) n
theorem F1.trans{H H1 H2:Hp}{a:Addr}(f:F1 H H1 a)(g:F1 H1 H2 a):F1 H H2 a:=λb o h n=>g b o (f b o h n) n
theorem zpt(H:Hp)(a:Addr)(o:HO):F1 H (upd H a o) a:=λb u h n=>by rw[zah n];exact h
noncomputable def qcs(K:qed)(ad:Ad):Sp:=λvs H Q E=>∃(H0:Hp)(wk:Addr)(k:Int)(d:Addr)(ps:List Bytes)(m:MS)(dx lo le lc:Addr)(ers crs:List Addr)(c:Nat),vs=[.ref wk,.int c]/\WAt ad H0 H wk k d ps m dx lo le lc ers crs ∧
 match more c m.s with
 |.error v=>zaw K ad.R E v k
 |.ok q=>∀H',WAt ad H0 H' wk k d ps ⟨q.2,m.st⟩ dx lo le lc ers crs->F1 H H' wk->Q (.int q.1) H'
noncomputable def zt5(K:qed)(ad:Ad):Sp:=λvs H Q E=>∃(H0:Hp)(wk:Addr)(k:Int)(d:Addr)(ps:List Bytes)(m:MS)(dx lo le lc:Addr)(ers crs:List Addr),vs=[.ref wk]/\WAt ad H0 H wk k d ps m dx lo le lc ers crs/\m.s.n<=24 ∧
 match more 1 m.s with
 |.error v=>zaw K ad.R E v k
 |.ok q=>∀H' a,WAt ad H0 H' wk k d ps ⟨q.2,m.st⟩ dx lo le lc ers crs->F1 H H' wk->zca H' a (ofPlace q.1)->Q (.ref a) H'
noncomputable def spTell(ad:Ad):Sp:=λvs H Q _=>∃(H0:Hp)(wk:Addr)(k:Int)(d:Addr)(ps:List Bytes)(m:MS)(dx lo le lc:Addr)(ers crs:List Addr)(a b:Addr)(x y:Row),vs=[.ref wk,.ref a,.ref b]/\WAt ad H0 H wk k d ps m dx lo le lc ers crs/\zca H a x/\zca H b y/\WF x/\WF y/\m.s.eqs.length<=900000 ∧
 ∀H' a',WAt ad H0 H' wk k d ps ⟨alike x y m.s,m.st⟩ dx lo le lc (ers++[a']) crs->F1 H H' le->Q .non H'
noncomputable def qck(K:qed)(ad:Ad):Sp:=λvs H Q E=>∃(H0:Hp)(wk:Addr)(k:Int)(d:Addr)(ps:List Bytes)(m:MS)(dx lo le lc:Addr)(ers crs:List Addr)(x:Bytes)(known:Known),vs=[.ref wk,.str (S x)]/\WAt ad H0 H wk k d ps m dx lo le lc ers crs/\KnownAt ad H0 d known/\(∀q∈known,KOk q.2)/\m.s.n<=24 ∧
 match ps.idxOf? x with
 |some j=>∀a,zca H a (ofPlace j)->Q (.ref a) H
 |none=>match known.find? λq=>q.1 == x with
  |some q=>(match more q.2.places m.s with
   |.error v=>zaw K ad.R E v k
   |.ok z=>∀H' a,WAt ad H0 H' wk k d ps ⟨z.2,m.st⟩ dx lo le lc ers crs->F1 H H' wk->zca H' a (shift z.1 q.2.comes)->Q (.ref a) H')
  |none=>False
section
variable{P:Program}{w:World}{K:qed}{mg:Str->Option Value}{base:Heap}{ad:Ad}
theorem zxe(T:Txt K mg ad):OkC P w K mg base 1 "Kind" ad.Kind ["self","of","comes","places"] (spKind ad):=by
 obtain⟨f,fd,M,F,hb⟩:=T.i_Kind
 refine⟨T.g_Kind,f,fd,M,hb,F.okX zru (λvs H Q E h=>?_) (λcdv A outer s H vs Q E hr h=>?_)⟩
 ·obtain⟨p,dx,lo,c,n,rfl,_⟩:=h
  rfl
 ·obtain⟨p,dx,lo,c,n,rfl,hp,q⟩:=h
  refine⟨_,zac (zb6 (pv 0) (pv 1) rfl) (zac (zb6 (pv 0) (pv 2) rfl) (zaf (zb6 (pv 0) (pv 3) rfl))),?_⟩
  refine⟨_,rfl,_,rfl,p,ad.Kind,dx,_,rfl,hp,T.l_Kind,T.n_Kind_of,(by show 0<1000;decide),_,rfl,_,rfl,p,ad.Kind,dx,_,rfl,zad,T.l_Kind,T.n_Kind_comes,(by show 1<1000;decide),_,rfl,_,rfl,p,ad.Kind,dx,_,rfl,zad,T.l_Kind,T.n_Kind_places,(by show 2<1000;decide),?_⟩
  exact q _ zad λb o e nb=>by rw[zah nb,zah nb,zah nb];exact e
theorem qdn(T:Txt K mg ad):OkC P w K mg base 1 "Work" ad.Work ["self","at","known"] (spWork ad):=by
 obtain⟨f,fd,M,F,hb⟩:=T.i_Work
 refine⟨T.g_Work,f,fd,M,hb,F.okX zrt (λvs H Q E h=>?_) (λcdv A outer s H vs Q E hr h=>?_)⟩
 ·obtain⟨p,dx,d,k,rfl,_⟩:=h
  rfl
 ·obtain⟨p,dx,d,k,rfl,hp,q⟩:=h
  refine⟨_,zac (zb6 (pv 0) (pv 1) rfl) (zac (zb6 (pv 0) (pv 2) rfl) (zac (zb6 (pv 0) zje rfl) (zac (zb6 (pv 0) zan rfl) (zac (zb6 (pv 0) (zbx zae) rfl) (zaf (zb6 (pv 0) (zbx zae) rfl)))))),?_⟩
  refine⟨_,rfl,_,rfl,p,ad.Work,dx,_,rfl,hp,T.l_Work,T.n_Work_at,(by show 0<1000;decide),_,rfl,_,rfl,p,ad.Work,dx,_,rfl,zad,T.l_Work,T.n_Work_known,(by show 1<1000;decide),λlo n1=>?_⟩
  have p1:p≠lo:=zai zad n1
  refine⟨_,rfl,p,ad.Work,dx,_,rfl,(by rw[zah p1,zad]),T.l_Work,T.n_Work_own,(by show 2<1000;decide),_,rfl,p,ad.Work,dx,_,rfl,zad,T.l_Work,T.n_Work_used,(by show 3<1000;decide),(by show 0<=sizeLine;decide),λle n2=>?_⟩
  have p2:p≠le:=zai zad n2
  refine⟨_,rfl,p,ad.Work,dx,_,rfl,(by rw[zah p2,zad]),T.l_Work,T.n_Work_equations,(by show 4<1000;decide),(by show 0<=sizeLine;decide),λlc n3=>?_⟩
  have p3:p≠lc:=zai zad n3
  refine⟨_,rfl,p,ad.Work,dx,_,rfl,(by rw[zah p3,zad]),T.l_Work,T.n_Work_came,(by show 5<1000;decide),?_⟩
  rw[zah p1.symm,zah p1.symm]at n1
  rw[zah p2.symm,zah p2.symm]at n2
  have l12:lo≠le:=λz=>by rw[z,zad]at n2;cases n2
  rw[zah l12.symm,zah p2.symm,zah p2.symm]at n2
  rw[zah p3.symm]at n3
  have l23:le≠lc:=λz=>by rw[z,zad]at n3;cases n3
  rw[zah l23.symm,zah p3.symm,zah p3.symm]at n3
  have l13:lo≠lc:=λz=>by rw[z,zad]at n3;cases n3
  rw[zah l13.symm,zah p3.symm,zah p3.symm]at n3
  refine q lo le lc _ n1 n2 n3 l23 zad ?_ ?_ ?_ λb o e nb=>?_
  ·rw[zah p1.symm,zah l13,zah p1.symm,zah l12,zah p1.symm,zah p1.symm,zad]
  ·rw[zah p2.symm,zah l23,zah p2.symm,zad]
  ·rw[zah p3.symm,zad]
  ·rw[zah nb,zah (zai e n3),zah nb,zah (zai e n2),zah nb,zah nb,zah (zai e n1),zah nb,zah nb];exact e
theorem znl(T:Txt K mg ad):OkM P w K mg base 4 ad.Work "claim_places" ["self","count"] (qcs K ad):=by
 have X1:=zf0 (P:=P) (w:=w) (base:=base) T
 obtain⟨t1,hP⟩:=T.k_PLACES
 refine T.m_Work_claim_places.ok T.l_Work c_Work_claim_places (λvs H Q E h=>?_) (λf cdv A outer s H vs Q E hr h=>?_)
 ·obtain⟨H0,wk,k,d,ps,m,dx,lo,le,lc,ers,crs,c,rfl,_⟩:=h
  rfl
 ·obtain⟨H0,wk,k,d,ps,m,dx,lo,le,lc,ers,crs,c,rfl,W,q⟩:=h
  refine⟨_,zac (zap (i:=2) c_Work_claim_places.nd rfl (Or.inl rfl) (zar (pv 0) rfl)) (zac (za9 (zas zni (zbc zb7 (pv 2) (pv 1)) (zav (v:=.int 24) rfl hP ⟨_,rfl⟩) (zaz _)) (zaf (zng X1 hr zab (zar (pv 0) rfl))) zau)
   (zac (zb6 (pv 0) (zbc zb7 (pv 2) (pv 1)) rfl) (zaf (zaq (pv 2))))),?_⟩
  refine⟨_,rfl,wk,ad.Work,dx,_,_,rfl,W.ob,T.l_Work,T.n_Work_used,rfl,_,rfl,_,rfl,_,_,rfl,rfl,_,_,rfl,rfl,_,rfl,?_⟩
  refine zb3 (λc1=>?_) (λc1=>?_)
  ·have c1:(24:Int)<(m.s.n:Int)+(c:Int):=of_decide_eq_true c1
   have e:more c m.s=.error (-28):=by
    unfold more;rw[if_neg (by show ¬m.s.n+c<=24;lia)]
   rw[e]at q
   exact⟨_,rfl,wk,ad.Work,dx,_,_,rfl,W.ob,T.l_Work,T.n_Work_at,rfl,k,rfl,q⟩
  ·have c1:¬(24:Int)<(m.s.n:Int)+(c:Int):=of_decide_eq_false (qfd.mpr c1)
   have e:more c m.s=.ok (m.s.n,{ m.s with n:=m.s.n+c }):=by
    unfold more;rw[if_pos (by show m.s.n+c<=24;lia)]
   rw[e]at q
   refine⟨_,rfl,_,rfl,_,_,rfl,rfl,_,rfl,wk,ad.Work,dx,_,rfl,W.ob,T.l_Work,T.n_Work_used,(by show 6<1000;decide),_,rfl,?_⟩
   obtain⟨W2,_⟩:=W.used (m.s.n+c)
   exact q _ W2 (zpt _ _ _)
theorem zkj(T:Txt K mg ad):OkM P w K mg base 5 ad.Work "new_place" ["self"] (zt5 K ad):=by
 have O1:=znl (P:=P) (w:=w) (base:=base) T
 have O2:=zs1 (P:=P) (w:=w) (base:=base) T
 refine T.m_Work_new_place.ok T.l_Work zi7 (λvs H Q E h=>?_) (λf cdv A outer s H vs Q E hr h=>?_)
 ·obtain⟨H0,wk,k,d,ps,m,dx,lo,le,lc,ers,crs,rfl,_⟩:=h
  rfl
 ·obtain⟨H0,wk,k,d,ps,m,dx,lo,le,lc,ers,crs,rfl,W,h24,q⟩:=h
  refine⟨_,zaf (zaq (cN O2 (hr.mono (by decide)) zab (zaa (cM O1 hr zab (pv 0) (zaa zan zae)) zae))),?_⟩
  refine⟨_,rfl,wk,dx,_,rfl,W.ob,rfl,H0,wk,k,d,ps,m,dx,lo,le,lc,ers,crs,1,rfl,W,?_⟩
  cases e:more 1 m.s with
  |error v=>rw[e]at q;exact q
  |ok z=>
   rw[e]at q
   obtain⟨z1,z2,z3,z4⟩:=zgs e
   intro H1 W1 f1
   refine⟨z.1,rfl,by lia,λr H2 n2 s2 e2=>?_⟩
   rw[zi2 (by lia)]at e2
   exact q H2 r (W1.toSame s2) (f1.same s2) e2
theorem zw1(T:Txt K mg ad):OkM P w K mg base 2 ad.Work "tell_alike" ["self","first","second"] (spTell ad):=by
 have O1:=zh9 (P:=P) (w:=w) (base:=base) T
 refine T.m_Work_tell_alike.ok T.l_Work zik (λvs H Q E h=>?_) (λf cdv A outer s H vs Q E hr h=>?_)
 ·obtain⟨H0,wk,k,d,ps,m,dx,lo,le,lc,ers,crs,a,b,x,y,rfl,_⟩:=h
  rfl
 ·obtain⟨H0,wk,k,d,ps,m,dx,lo,le,lc,ers,crs,a,b,x,y,rfl,W,ha,hb,wx,wy,hl,q⟩:=h
  refine⟨_,zaf (zal (zh5 qe6 qff qfg zbn (zar (pv 0) rfl) (zaa (cN O1 hr zab (zaa (pv 1) (zaa (pv 2) zae))) zae))),?_⟩
  refine⟨_,rfl,wk,ad.Work,dx,_,_,rfl,W.ob,T.l_Work,T.n_Work_equations,rfl,.inl ⟨rfl,_,SqL.of W.eqs⟩,_,rfl,_,rfl,a,b,za6 x,za6 y,rfl,ha,hb,by rw[zbf wx];decide,λr H1 n1 s1 e1=>?_⟩
  rw[zny wx wy]at e1
  have W1:=W.toSame s1
  have hlen:ers.length<=900000:=by have:=W.er.len;rw[qec]at this;lia
  refine⟨le,_,_,rfl,rfl,W1.eqs,by rw[qec];exact zg4 (by lia),?_⟩
  obtain⟨W2,_⟩:=W1.tell e1 (zes wx (zbv _ wy))
  exact q _ r W2 (Same.f1 s1 (zpt _ _ _))
theorem qag(T:Txt K mg ad):OkM P w K mg base 5 ad.Work "product_named" ["self","name"] (qck K ad):=by
 have O1:=znl (P:=P) (w:=w) (base:=base) T
 have O2:=zs2 (P:=P) (w:=w) (base:=base) T
 refine T.m_Work_product_named.ok T.l_Work c_Work_product_named (λvs H Q E h=>?_) (λf cdv A outer s H vs Q E hr h=>?_)
 ·obtain⟨H0,wk,k,d,ps,m,dx,lo,le,lc,ers,crs,x,known,rfl,_⟩:=h
  rfl
 ·obtain⟨H0,wk,k,d,ps,m,dx,lo,le,lc,ers,crs,x,known,rfl,W,hk,hko,h24,q⟩:=h
  have hu:=zpk hr
  refine⟨_,zac (za9 (zsp (zmq hu (pv 1) (zar (pv 0) rfl))) (zaf (zaq (zfd hu (zar (pv 0) rfl) (pv 1) (λ_ _=>rfl)))) zau)
   (zac (zap (i:=2) c_Work_product_named.nd rfl (Or.inl rfl) (zfd hu (zar (pv 0) rfl) (pv 1) (λ_ _=>rfl)))
   (zaf (zaq (cN O2 (hr.mono (by decide)) zab (zaa (zar (pv 2) rfl) (zaa (cM O1 hr zab (pv 0) (zaa (zar (pv 2) rfl) zae)) zae)))))),?_⟩
  obtain⟨okvs,o1,o2,o3⟩:=id W.own
  refine⟨_,rfl,_,rfl,wk,ad.Work,dx,_,_,rfl,W.ob,T.l_Work,T.n_Work_own,rfl,lo,_,rfl,DGet.k (k:=Sum.inr (S x)) o1,_,rfl,?_⟩
  have o3x:=o3 x
  cases ei:ps.idxOf? x with
  |some j=>
   rw[ei]at q o3x
   obtain⟨a,a1,a2⟩:=o3x
   rw[a1]
   exact⟨_,rfl,wk,ad.Work,dx,_,_,rfl,W.ob,T.l_Work,T.n_Work_own,rfl,_,rfl,lo,_,rfl,(by rw[<-a1];exact DGet.k (k:=Sum.inr (S x)) o1),q a a2⟩
  |none=>
   rw[ei]at q o3x
   rw[o3x]
   cases ef:known.find? λq=>q.1 == x with
   |none=>rw[ef]at q;exact q.elim
   |some p=>
    rw[ef]at q
    obtain⟨kvs,a,h1,h2,h3⟩:=hk.get ef
    have kok:=hko p (qgh ef)
    have hd:=W.same _ _ h1
    obtain⟨kdx,klo,kc,ors,k1,k2,k3,k4⟩:=h3.same W.same
    refine⟨_,rfl,wk,ad.Work,dx,_,_,rfl,W.ob,T.l_Work,T.n_Work_known,rfl,_,rfl,d,_,rfl,(by rw[<-h2];exact DGet.k (k:=Sum.inr (S x)) hd),?_⟩
    refine⟨_,rfl,a,ad.Kind,kdx,_,_,rfl,k1,T.l_Kind,T.n_Kind_comes,rfl,?_⟩
    refine⟨_,rfl,wk,dx,_,rfl,W.ob,rfl,_,rfl,a,ad.Kind,kdx,_,_,rfl,k1,T.l_Kind,T.n_Kind_places,rfl,H0,wk,k,d,ps,m,dx,lo,le,lc,ers,crs,p.2.places,rfl,W,?_⟩
    replace q:(match more p.2.places m.s with
     |.error v=>zaw K ad.R E v k
     |.ok z=>∀H' a,WAt ad H0 H' wk k d ps ⟨z.2,m.st⟩ dx lo le lc ers crs->F1 H H' wk->zca H' a (shift z.1 p.2.comes)->Q (.ref a) H'):=q
    cases e:more p.2.places m.s with
    |error v=>rw[e]at q;exact q
    |ok z=>
     rw[e]at q
     obtain⟨z1,z2,z3,z4⟩:=zgs e
     intro H1 W1 f1
     have kr:=f1.keepR (zia W.ob)
     refine⟨kc,za6 p.2.comes,z.1,rfl,kr _ _ kok.wc k4,by lia,by rw[zbf kok.wc];decide,λr H2 n2 s2 e2=>?_⟩
     rw[zdq kok.wc,zcp kok.wc,zig kok.wc (by lia)]at e2
     exact q H2 r (W1.toSame s2) (f1.same s2) e2
end
def sxW:Sx->Str
 |.zero=>"zero"
 |.number=>"number"
 |.name _=>"name"
 |.call _ _=>"call"
 |.pw _=>"^"
 |.times=>"*"
 |.over=>"/"
 |.alike=>"alike"
 |.compare=>"compare"
noncomputable def sxN:Sx->Str
 |.name x=>S x
 |.call f _=>S f
 |_=>""
def sxI:Sx->Int
 |.call _ n=>n
 |.pw k=>k
 |_=>0
noncomputable def sxV(x:Sx):List V:=[.str (sxW x),.str (sxN x),.int (sxI x)]
theorem Rows.last{H:Hp}:∀{ss:List (List Int)}{rs:List Addr}{s:List Int},Rows H rs (ss++[s])->∃qs q,rs=qs++[q]/\Rows H qs ss/\LI H q s
 |[],_,_,.cons h .nil=>⟨[],_,rfl,.nil,h⟩
 |_::ss,_,_,.cons h t=>by
  obtain⟨qs,q,rfl,a,b⟩:=Rows.last (ss:=ss) t
  exact⟨_::qs,q,rfl,.cons h a,b⟩
section
variable{ad:Ad}{H0 H:Hp}{wk:Addr}{k:Int}{d:Addr}{ps:List Bytes}{m:MS}{dx lo le lc:Addr}{ers crs:List Addr}
theorem WAt.push(W:WAt ad H0 H wk k d ps m dx lo le lc ers crs){a:Addr}{x:Row}(ha:zca H a x)(wx:WF x):WAt ad H0 (upd H lc (.lst (crs.map V.ref++[.ref a]))) wk k d ps ⟨m.s,m.st++[x]⟩ dx lo le lc ers (crs++[a]):=by
 have:=(W.put (crs':=crs++[a]) (st':=m.st++[x]) (by rw[qej];exact Rows.push W.cr ha) (λz hz=>by
  rcases qeq.mp hz with hz|hz
  ·exact W.wc z hz
  ·rw[qew.mp hz];exact wx)).1
 rw[qej]at this
 exact this
theorem WAt.pop(W:WAt ad H0 H wk k d ps m dx lo le lc ers crs){r:List Row}{x:Row}(e:m.st=r++[x]):∃cr p,crs=cr++[p]/\zca H p x/\(crs.map V.ref)[(crs.map V.ref).length - 1]?=some (.ref p) ∧
  WAt ad H0 (upd H lc (.lst (crs.map V.ref).dropLast)) wk k d ps ⟨m.s,r⟩ dx lo le lc ers cr/\zl9 H (upd H lc (.lst (crs.map V.ref).dropLast)):=by
 have hc:=W.cr
 rw[e,qej]at hc
 obtain⟨cr,p,rfl,h1,h2⟩:=Rows.last hc
 refine⟨cr,p,rfl,h2,by simp,?_⟩
 have:=W.put (crs':=cr) (st':=r) h1 (λz hz=>W.wc z (by rw[e];exact qft _ hz))
 rw[show ((cr++[p]).map V.ref).dropLast=cr.map V.ref by rw[qej];simp]
 exact this
theorem WAt.clen(W:WAt ad H0 H wk k d ps m dx lo le lc ers crs):crs.length=m.st.length:=by have:=W.cr.len;rw[qec]at this;exact this
end
theorem qc1{m:MS}{f:List Row->Row->Row->MR}(h:zub m f≠.error 0):∃r a b,m.st=r++[a]++[b]/\zub m f=f r a b:=by
 unfold zub at h ⊢
 split
 ·next y x r hr=>exact⟨r.reverse,x,y,rev2 hr,rfl⟩
 ·next hr=>
  exfalso;apply h
  split
  ·next y x r hr'=>exact absurd hr' (hr _ _ _)
  ·rfl
def After(K:qed)(ad:Ad)(H0:Hp)(wk:Addr)(k:Int)(d:Addr)(ps:List Bytes)(dx lo le:Addr)(Q:VK)(E:XK):MR->Prop
 |.error v=>v≠0/\zaw K ad.R E v k
 |.ok m=>∀H' lc ers crs,WAt ad H0 H' wk k d ps m dx lo le lc ers crs->Q .non H'
theorem After.ne{K:qed}{ad:Ad}{H0:Hp}{wk:Addr}{k:Int}{d:Addr}{ps:List Bytes}{dx lo le:Addr}{Q:VK}{E:XK}{r:MR}(h:After K ad H0 wk k d ps dx lo le Q E r):r≠.error 0:=by
 intro z;subst z;exact h.1 rfl
def qcu(K:qed)(ad:Ad):Sp:=λvs H Q E=>∃(H0:Hp)(wk:Addr)(k:Int)(d:Addr)(ps:List Bytes)(m:MS)(dx lo le lc:Addr)(ers crs:List Addr)(x:Sx),vs=[.ref wk,.str (sxW x)]/\WAt ad H0 H wk k d ps m dx lo le lc ers crs/\(x=.times\/x=.over\/x=.alike\/x=.compare) ∧
 m.s.eqs.length<=800000/\m.st.length<=100000/\After K ad H0 wk k d ps dx lo le Q E (zbd [] ps x m)
def qct(K:qed)(ad:Ad):Sp:=λvs H Q E=>∃(H0:Hp)(wk:Addr)(k:Int)(d:Addr)(ps:List Bytes)(m:MS)(dx lo le lc:Addr)(ers crs:List Addr)(q:Addr)(kd:zln),vs=[.ref wk,.ref q]/\WAt ad H0 H wk k d ps m dx lo le lc ers crs/\KindAt ad H0 q kd/\KOk kd/\kd.of.length<=6/\kd.of.length<=m.st.length ∧
 m.s.n<=24/\m.s.eqs.length<=800000/\m.st.length<=100000/\After K ad H0 wk k d ps dx lo le Q E (match more kd.places m.s with
   |.error v=>.error v
   |.ok z=>.ok ⟨zda (m.st.drop (m.st.length - kd.of.length)) kd.of z.1 z.2,m.st.take (m.st.length - kd.of.length)++[shift z.1 kd.comes]⟩)
def spGo(K:qed)(ad:Ad):Sp:=λvs H Q E=>∃(H0:Hp)(wk:Addr)(k:Int)(d:Addr)(ps:List Bytes)(m:MS)(dx lo le lc:Addr)(ers crs:List Addr)(x:Sx)(t:Addr)(known:Known),vs=[.ref wk,.ref t]/\WAt ad H0 H wk k d ps m dx lo le lc ers crs/\SqT K H0 t (sxV x)/\KnownAt ad H0 d known/\(∀q∈known,KOk q.2)/\(∀q∈known,q.2.of.length<=6) ∧
 m.s.n<=24/\m.s.eqs.length<=800000/\m.st.length<=100000/\(-1000<sxI x/\sxI x<1000000)/\After K ad H0 wk k d ps dx lo le Q E (zbd known ps x m)
section
variable{P:Program}{w:World}{K:qed}{mg:Str->Option Value}{base:Heap}{ad:Ad}
theorem qam(T:Txt K mg ad):OkM P w K mg base 5 ad.Work "bring_together" ["self","action"] (qcu K ad):=by
 have O1:=znm (P:=P) (w:=w) (base:=base) T
 have O2:=zs0 (P:=P) (w:=w) (base:=base) T
 have O3:=zh9 (P:=P) (w:=w) (base:=base) T
 have O4:=zw1 (P:=P) (w:=w) (base:=base) T
 refine T.m_Work_bring_together.ok T.l_Work c_Work_bring_together (λvs H Q E h=>?_) (λf cdv A outer s H vs Q E hr h=>?_)
 ·obtain⟨H0,wk,k,d,ps,m,dx,lo,le,lc,ers,crs,x,rfl,_⟩:=h
  rfl
 ·obtain⟨H0,wk,k,d,ps,m,dx,lo,le,lc,ers,crs,x,rfl,W,hx,he,hs,q⟩:=h
  have h1:Room 1 _:=hr.mono (by decide)
  have h2:Room 2 _:=hr.mono (by decide)
  refine⟨_,zac (zap (i:=2) c_Work_bring_together.nd rfl (Or.inl rfl) (zwv qe6 qh5 qh6 zxl (zar (pv 0) rfl)))
   (zac (zap (i:=3) c_Work_bring_together.nd rfl (Or.inl rfl) (zwv qe6 qh5 qh6 zxl (zar (pv 0) rfl)))
   (zaf (za9 (zas zed (pv 1) zam (zaz _))
    (zaf (zal (zh5 qe6 qff qfg zbn (zar (pv 0) rfl) (zaa (cN O1 hr zab (zaa (cN O2 h1 zab (zaa (pv 3) (zaa (pv 2) zae))) (zaa (zar (pv 0) rfl) zae))) zae))))
    (zaf (za9 (zas zed (pv 1) zam (zaz _))
     (zaf (zal (zh5 qe6 qff qfg zbn (zar (pv 0) rfl) (zaa (cN O1 hr zab (zaa (cN O3 h1 zab (zaa (pv 3) (zaa (pv 2) zae))) (zaa (zar (pv 0) rfl) zae))) zae))))
     (zac (zal (cM O4 h2 zab (pv 0) (zaa (pv 3) (zaa (pv 2) zae))))
      (zaf (za9 (zas zed (pv 1) zam (zaz _))
       (zaf (zal (zh5 qe6 qff qfg zbn (zar (pv 0) rfl) (zaa (pv 3) zae))))
       zau)))))))),?_⟩
  have two:∃r a b,m.st=r++[a]++[b]:=by
   have hne:=q.ne
   rcases hx with rfl|rfl|rfl|rfl <;> (simp only[zbd]at hne;obtain⟨r,a,b,h,_⟩:=qc1 hne;exact⟨r,a,b,h⟩)
  obtain⟨r,a,b,est⟩:=two
  have em:m=⟨m.s,r++[a]++[b]⟩:=by rw[<-est]
  have wa:WF a:=W.wc a (by rw[est];simp)
  have wb:WF b:=W.wc b (by rw[est];simp)
  obtain⟨cr1,p2,rfl,hp2,g2,W1,kr1⟩:=W.pop est
  obtain⟨cr,p1,rfl,hp1,g1,W2,kr2⟩:=W1.pop (r:=r) (x:=a) rfl
  have hp2':=kr2 _ _ wb (kr1 _ _ wb hp2)
  have hp1':=kr2 _ _ wa hp1
  refine⟨_,rfl,wk,ad.Work,dx,_,_,rfl,W.ob,T.l_Work,T.n_Work_came,rfl,.inl ⟨rfl,_,SqL.of W.came⟩,lc,_,_,rfl,rfl,W.came,g2,?_⟩
  refine⟨_,rfl,wk,ad.Work,dx,_,_,rfl,W1.ob,T.l_Work,T.n_Work_came,rfl,.inl ⟨rfl,_,SqL.of W1.came⟩,lc,_,_,rfl,rfl,W1.came,g1,?_⟩
  have hlen:r.length<=100000:=by rw[est]at hs;simp at hs;lia
  rw[em]at q
  rcases hx with rfl|rfl|rfl|rfl
  ·simp only[zbd,zen]at q
   refine⟨_,rfl,rfl,_,rfl,zb3 (λ_=>?_) (λh=>absurd (by decide +kernel) h)⟩
   refine⟨_,rfl,wk,ad.Work,dx,_,_,rfl,W2.ob,T.l_Work,T.n_Work_came,rfl,.inl ⟨rfl,_,SqL.of W2.came⟩,_,rfl,_,rfl,p1,p2,za6 a,za6 b,rfl,hp1',hp2',by rw[zbf wa];decide,λr1 H1 n1 s1 e1=>?_⟩
   rw[znx wa wb]at e1
   have W3:=W2.toSame s1
   refine⟨_,rfl,wk,ad.Work,dx,_,_,rfl,W3.ob,T.l_Work,T.n_Work_at,rfl,r1,mul a b,k,rfl,e1,zes wa wb,λz=>?_,λz=>?_⟩
   ·rw[if_pos z]at q
    refine⟨lc,_,_,rfl,rfl,W3.came,by rw[qec,W3.clen];exact zg4 (by show r.length<=_;lia),?_⟩
    exact q _ _ _ _ (W3.push e1 (zes wa wb))
   ·rw[if_neg (by rw[z];decide)]at q
    exact q.2
  ·simp only[zbd,zen]at q
   refine⟨_,rfl,rfl,_,rfl,zb3 (λh=>absurd h (by decide +kernel)) (λ_=>?_)⟩
   refine⟨_,rfl,rfl,_,rfl,zb3 (λ_=>?_) (λh=>absurd (by decide +kernel) h)⟩
   refine⟨_,rfl,wk,ad.Work,dx,_,_,rfl,W2.ob,T.l_Work,T.n_Work_came,rfl,.inl ⟨rfl,_,SqL.of W2.came⟩,_,rfl,_,rfl,p1,p2,za6 a,za6 b,rfl,hp1',hp2',by rw[zbf wa];decide,λr1 H1 n1 s1 e1=>?_⟩
   rw[zny wa wb]at e1
   have W3:=W2.toSame s1
   have wq:=zes wa (zbv (-1) wb)
   refine⟨_,rfl,wk,ad.Work,dx,_,_,rfl,W3.ob,T.l_Work,T.n_Work_at,rfl,r1,_,k,rfl,e1,wq,λz=>?_,λz=>?_⟩
   ·rw[if_pos z]at q
    refine⟨lc,_,_,rfl,rfl,W3.came,by rw[qec,W3.clen];exact zg4 (by show r.length<=_;lia),?_⟩
    exact q _ _ _ _ (W3.push e1 wq)
   ·rw[if_neg (by rw[z];decide)]at q
    exact q.2
  ·simp only[zbd,zen]at q
   refine⟨_,rfl,rfl,_,rfl,zb3 (λh=>absurd h (by decide +kernel)) (λ_=>?_)⟩
   refine⟨_,rfl,rfl,_,rfl,zb3 (λh=>absurd h (by decide +kernel)) (λ_=>?_)⟩
   refine⟨_,rfl,wk,dx,_,rfl,W2.ob,rfl,_,rfl,_,rfl,H0,wk,k,d,ps,_,dx,lo,le,lc,_,_,p1,p2,a,b,rfl,W2,hp1',hp2',wa,wb,by show m.s.eqs.length<=_;lia,λH1 a' W3 f1=>?_⟩
   refine⟨_,rfl,rfl,_,rfl,zb3 (λ_=>?_) (λh=>absurd (by decide +kernel) h)⟩
   have hp1'':=f1.keepR (zgr W2.eqs) _ _ wa hp1'
   refine⟨_,rfl,wk,ad.Work,dx,_,_,rfl,W3.ob,T.l_Work,T.n_Work_came,rfl,.inl ⟨rfl,_,SqL.of W3.came⟩,_,rfl,?_⟩
   refine⟨lc,_,_,rfl,rfl,W3.came,by rw[qec,W3.clen];exact zg4 (by show r.length<=_;lia),?_⟩
   exact q _ _ _ _ (W3.push hp1'' wa)
  ·simp only[zbd,zen]at q
   refine⟨_,rfl,rfl,_,rfl,zb3 (λh=>absurd h (by decide +kernel)) (λ_=>?_)⟩
   refine⟨_,rfl,rfl,_,rfl,zb3 (λh=>absurd h (by decide +kernel)) (λ_=>?_)⟩
   refine⟨_,rfl,wk,dx,_,rfl,W2.ob,rfl,_,rfl,_,rfl,H0,wk,k,d,ps,_,dx,lo,le,lc,_,_,p1,p2,a,b,rfl,W2,hp1',hp2',wa,wb,by show m.s.eqs.length<=_;lia,λH1 a' W3 f1=>?_⟩
   refine⟨_,rfl,rfl,_,rfl,zb3 (λh=>absurd h (by decide +kernel)) (λ_=>?_)⟩
   exact q _ _ _ _ W3
end
theorem qd2(xs:List Addr)(k:Nat):zpw (xs.map V.ref) none (some (k:Int))=(xs.take k).map V.ref:=by
 unfold zpw
 rw[HT.sIx_none,HT.sIx_nat,qgx,Nat.sub_zero,qec,<-qic]
 congr 1
 by_cases h:k<=xs.length
 ·rw[qg7 h]
 ·rw[qhj (by lia),qe5 (by lia),qe5 (by lia)]
theorem qd3(xs:List Addr)(k:Nat):zpw (xs.map V.ref) (some (k:Int)) none=(xs.drop k).map V.ref:=by
 unfold zpw
 rw[HT.sIx_none,HT.sIx_nat,qec,<-qhs,<-qic]
 congr 1
 by_cases h:k<=xs.length
 ·rw[qg7 h,qe5 (by simp)]
 ·rw[qhj (by lia),qgr (by lia),qgr (by lia)];simp
theorem zrm{a o:List Row}{k i:Nat}{s:Kp169.St}{x y:Row}(hx:a[i]?=some x)(hy:o[i]?=some y):zda (a.take (i+1)) (o.take (i+1)) k s=alike x (shift k y) (zda (a.take i) (o.take i) k s):=by
 unfold zda
 have e:qg8 (a.take (i+1)) (o.take (i+1))=qg8 (a.take i) (o.take i)++[(x,y)]:=by
  show qeu Prod.mk _ _=qeu Prod.mk _ _++_
  rw[<-List.take_zipWith,<-List.take_zipWith,qfn,show (qeu Prod.mk a o)[i]?=some (x,y) from qhg.mpr ⟨hx,hy⟩];rfl
 rw[e,qg9];rfl
theorem zsm{x y:V}{H:Hp}{Q:VK}{i j n:Int}(hx:x=.int i)(hy:y=.int j)(e:i - j=n)(h:Q (V.int n) H):rI0 (λi j=>V.int (i - j)) x y H Q:=by subst e;exact⟨i,j,hx,hy,h⟩
section
variable{P:Program}{w:World}{K:qed}{mg:Str->Option Value}{base:Heap}{ad:Ad}
theorem qal(T:Txt K mg ad):OkM P w K mg base 5 ad.Work "call" ["self","kind"] (qct K ad):=by
 have O1:=znl (P:=P) (w:=w) (base:=base) T
 have O2:=zs2 (P:=P) (w:=w) (base:=base) T
 have O4:=zw1 (P:=P) (w:=w) (base:=base) T
 refine T.m_Work_call.ok T.l_Work c_Work_call (λvs H Q E h=>?_) (λf cdv A outer s H vs Q E hr h=>?_)
 ·obtain⟨H0,wk,k,d,ps,m,dx,lo,le,lc,ers,crs,q,kd,rfl,_⟩:=h
  rfl
 ·obtain⟨H0,wk,k,d,ps,m,dx,lo,le,lc,ers,crs,qk,kd,rfl,W,hk,kok,h6,hst,h24,he,hs,q⟩:=h
  have h2:Room 2 _:=hr.mono (by decide)
  obtain⟨kdx,klo,kc,ors,k1,k2,k3,k4⟩:=hk
  have olen:ors.length=kd.of.length:=by have:=k3.len;rw[qec]at this;exact this
  refine⟨_,zac (zap (i:=2) c_Work_call.nd rfl (Or.inl rfl) (cM O1 hr zab (pv 0) (zaa (zar (pv 1) rfl) zae)))
   (zac (zap (i:=3) c_Work_call.nd rfl (Or.inl rfl) (zbc zkg (za3 za7 rfl T.z_len (by decide +kernel) (zaa (zar (pv 0) rfl) zae)) (za3 za7 rfl T.z_len (by decide +kernel) (zaa (zar (pv 1) rfl) zae))))
   (zac (zew zbl rfl (zsr rfl T.z_zip (zaa (zcw zgj (zar (pv 0) rfl) (zct (pv 3)) zgl) (zaa (zar (pv 1) rfl) zae))) (ziz K 4 5 rfl c_Work_call.nd rfl rfl rfl rfl)
    (zaf (zal (cM O4 h2 zab (pv 0) (zaa (pv 4) (zaa (cN O2 h2 zab (zaa (pv 5) (zaa (pv 2) zae))) zae))))))
   (zaf (zb6 (pv 0) (zbc zgg (zcw zgj (zar (pv 0) rfl) zgl (zct (pv 3))) (zbx (zaa (cN O2 h2 zab (zaa (zar (pv 1) rfl) (zaa (pv 2) zae))) zae))) rfl)))),?_⟩
  refine⟨_,rfl,wk,dx,_,rfl,W.ob,rfl,_,rfl,qk,ad.Kind,kdx,_,_,rfl,W.same _ _ k1,T.l_Kind,T.n_Kind_places,rfl,H0,wk,k,d,ps,m,dx,lo,le,lc,ers,crs,kd.places,rfl,W,?_⟩
  cases e:more kd.places m.s with
  |error v=>rw[e]at q;exact q.2
  |ok z=>
   rw[e]at q
   obtain⟨z1,z2,z3,z4⟩:=zgs e
   intro H1 W1 f1
   have clen:=W1.clen
   dsimp only at clen
   refine⟨_,rfl,wk,ad.Work,dx,_,_,rfl,W1.ob,T.l_Work,T.n_Work_came,rfl,lc,_,rfl,.inl (SqL.of W1.came),_,rfl,qk,ad.Kind,kdx,_,_,rfl,W1.same _ _ k1,T.l_Kind,T.n_Kind_of,rfl,klo,_,rfl,.inl (SqL.of (W1.same _ _ k2)),zsm rfl rfl (n:=((m.st.length - kd.of.length:Nat):Int)) ?_ ?_⟩
   ·rw[qec,qec,clen,olen];lia
   have hd:m.st.drop (m.st.length - kd.of.length)=m.st.drop (m.st.length - kd.of.length):=rfl
   generalize hn:m.st.length - kd.of.length=n0 at *
   refine⟨_,rfl,wk,ad.Work,dx,_,_,rfl,W1.ob,T.l_Work,T.n_Work_came,rfl,_,rfl,_,rfl,lc,_,rfl,SqL.of W1.came,λD nD=>?_⟩
   rw[qd3]
   have sD:=zaj (o:=HO.lst ((crs.drop n0).map V.ref)) nD
   have W2:=W1.toSame sD
   refine⟨_,rfl,qk,ad.Kind,kdx,_,_,rfl,W2.same _ _ k1,T.l_Kind,T.n_Kind_of,rfl,D,klo,_,_,rfl,SqL.of zad,SqL.of (W2.same _ _ k2),zx7 (xs:=(crs.drop n0).map V.ref) (ys:=ors.map V.ref) (λi σ H'=>∃(ers':List Addr)(v4 v5:Option V),σ=[some (.ref wk),some (.ref qk),some (.int z.1),some (.int n0),v4,v5] ∧
    WAt ad H0 H' wk k d ps ⟨zda ((m.st.drop n0).take i) (kd.of.take i) z.1 z.2,m.st⟩ dx lo le lc ers' crs/\F1 (upd H1 D (.lst ((crs.drop n0).map V.ref))) H' le) ?_ ?_ ?_ ?_⟩
   ·exact⟨ers,none,none,rfl,W2,λb o h _=>h⟩
   ·rintro i σ H' _ ⟨ers',v4,v5,_,W3,f3⟩
    exact⟨SqL.of (f3 _ _ zad (zai W1.eqs nD).symm),SqL.of (W3.same _ _ k2)⟩
   ·rintro i x y T' σ H' hx1 hy1 nT ⟨ers',v4,v5,rfl,W3,f3⟩
    rw[qeh]at hx1 hy1
    obtain⟨g,hg,rfl⟩:=qei.mp hx1
    obtain⟨p,hp,rfl⟩:=qei.mp hy1
    have sT:=zaj (o:=HO.tup [V.ref g,V.ref p]) nT
    have W4:=W3.toSame sT
    have hR:=Rows.drop n0 W4.cr
    obtain⟨sg,hsg,eg⟩:=hR.get hg
    rw[<-qhs,qeh]at hsg
    obtain⟨rg,hrg,rfl⟩:=qei.mp hsg
    obtain⟨sp,hsp,ep⟩:=(k3.same W4.same).get hp
    rw[qeh]at hsp
    obtain⟨rp,hrp,rfl⟩:=qei.mp hsp
    have wg:WF rg:=W.wc rg (qey (qe7 hrg))
    have wp:WF rp:=kok.wo rp (qe7 hrp)
    refine⟨T',_,rfl,.inl (.inl zad),rfl,_,_,rfl,_,_,rfl,rfl,?_⟩
    refine⟨_,rfl,wk,dx,_,rfl,W4.ob,rfl,_,rfl,_,rfl,_,rfl,p,za6 rp,z.1,rfl,ep,by lia,by rw[zbf wp];decide,λr1 H5 n5 s5 e5=>?_⟩
    rw[zdq wp,zcp wp,zig wp (by lia)]at e5
    have W5:=W4.toSame s5
    refine⟨H0,wk,k,d,ps,_,dx,lo,le,lc,_,_,g,r1,rg,shift z.1 rp,rfl,W5,s5 _ _ eg,e5,wg,zfv _ wp,?_,λH6 a' W6 f6=>?_⟩
    ·show (zda _ _ _ _).eqs.length<=_
     rw[zf5,z3,qee,qjh,qe2,qe2];lia
    ·refine⟨ers'++[a'],_,_,rfl,?_,?_⟩
     ·rw[zrm hrg hrp];exact W6
     ·exact f3.trans (Same.f1 (sT.trans s5) f6)
   ·rintro σ H' ⟨ers',v4,v5,rfl,W3,f3⟩
    have hmin:min ((crs.drop n0).map V.ref).length (ors.map V.ref).length=kd.of.length:=by
     rw[qec,qec,qfl,clen,olen];lia
    rw[hmin,qe5 (by rw[qfl];lia),qe5 (qek _)]at W3
    refine⟨_,rfl,wk,ad.Work,dx,_,_,rfl,W3.ob,T.l_Work,T.n_Work_came,rfl,_,rfl,_,rfl,lc,_,rfl,SqL.of W3.came,λr1 n1=>?_⟩
    rw[qd2]
    have s1:=zaj (o:=HO.lst ((crs.take n0).map V.ref)) n1
    have W4:=W3.toSame s1
    refine⟨_,rfl,qk,ad.Kind,kdx,_,_,rfl,W4.same _ _ k1,T.l_Kind,T.n_Kind_comes,rfl,_,rfl,kc,za6 kd.comes,z.1,rfl,W4.same _ _ k4,by lia,by rw[zbf kok.wc];decide,λr2 H5 n5 s5 e5=>?_⟩
    rw[zdq kok.wc,zcp kok.wc,zig kok.wc (by lia)]at e5
    refine⟨(by show 1<=sizeLine;decide),λr3 n3=>?_⟩
    have s3:=zaj (o:=HO.lst [V.ref r2]) n3
    refine⟨r1,r3,_,_,rfl,rfl,s3 _ _ (s5 _ _ zad),zad,?_,λr4 n4=>?_⟩
    ·rw[qec,qe2];exact big (by simp;lia)
    have s4:=zaj (o:=HO.lst ((crs.take n0).map V.ref++[V.ref r2])) n4
    have W7:=W4.toSame (s5.trans (s3.trans s4))
    refine⟨_,rfl,wk,ad.Work,dx,_,rfl,W7.ob,T.l_Work,T.n_Work_came,(by show 6<1000;decide),?_⟩
    have h0:H0 r4=none:=(W4.same.trans (s5.trans s3)).free n4
    have wsh:WF (shift z.1 kd.comes):=zfv _ kok.wc
    have W8:=(W7.anew (lc':=r4) (crs':=crs.take n0++[r2]) (st':=m.st.take n0++[shift z.1 kd.comes]) h0 (zai (s3 _ _ (s5 _ _ W4.eqs)) n4) (by rw[zad,qej];rfl)
     (by rw[qej];exact Rows.push (by have:=Rows.take n0 W7.cr;rw[<-qic]at this;exact this) (s4 _ _ (s3 _ _ e5))) (λy hy=>by
      rcases qeq.mp hy with hy|hy
      ·exact W.wc y (qgc hy)
      ·rw[qew.mp hy];exact wsh)).1
    exact q _ _ _ _ W8
theorem ok_go(T:Txt K mg ad):OkM P w K mg base 6 ad.Work "go_through" ["self","step"] (spGo K ad):=by
 have O1:=zkj (P:=P) (w:=w) (base:=base) T
 have O2:=zh8 (P:=P) (w:=w) (base:=base) T
 have O3:=qag (P:=P) (w:=w) (base:=base) T
 have O4:=qal (P:=P) (w:=w) (base:=base) T
 have O5:=znm (P:=P) (w:=w) (base:=base) T
 have O6:=zki (P:=P) (w:=w) (base:=base) T
 have O7:=qam (P:=P) (w:=w) (base:=base) T
 refine T.m_Work_go_through.ok T.l_Work c_Work_go_through (λvs H Q E h=>?_) (λf cdv A outer s H vs Q E hr h=>?_)
 ·obtain⟨H0,wk,k,d,ps,m,dx,lo,le,lc,ers,crs,x,t,known,rfl,_⟩:=h
  rfl
 ·obtain⟨H0,wk,k,d,ps,m,dx,lo,le,lc,ers,crs,x,t,known,rfl,W,ht,hk,kok,h6,h24,he,hs,hi,q⟩:=h
  have h1:Room 1 _:=hr.mono (by decide)
  have h4:Room 4 _:=hr.mono (by decide)
  have hu:=zpk hr
  have hne:=q.ne
  refine⟨_,zac (zap (i:=2) c_Work_go_through.nd rfl (Or.inl rfl) (zdt zex (pv 1) zan (λ_ _=>rfl)))
   (zaf (za9 (zas zed (pv 2) zam (zaz _))
    (zaf (zal (zh5 qe6 qff qfg zbn (zar (pv 0) rfl) (zaa (cM0 O1 hr zab (pv 0)) zae))))
    (zaf (za9 (zas zed (pv 2) zam (zaz _))
     (zaf (zal (zh5 qe6 qff qfg zbn (zar (pv 0) rfl) (zaa (cN0 O2 h1 zab) zae))))
     (zaf (za9 (zas zed (pv 2) zam (zaz _))
      (zaf (zal (zh5 qe6 qff qfg zbn (zar (pv 0) rfl) (zaa (cM O3 hr zab (pv 0) (zaa (zdt zex (pv 1) zan (λ_ _=>rfl)) zae)) zae))))
      (zaf (za9 (zas zed (pv 2) zam (zaz _))
       (zaf (zal (cM O4 hr zab (pv 0) (zaa (zfd hu (zar (pv 0) rfl) (zdt zex (pv 1) zan (λ_ _=>rfl)) (λ_ _=>rfl)) zae))))
       (zaf (za9 (zas zed (pv 2) zam (zaz _))
        (zaf (zal (zh5 qe6 qff qfg zbn (zar (pv 0) rfl) (zaa (cN O5 h4 zab (zaa (cN O6 h1 zab (zaa (zwv qe6 qh5 qh6 zxl (zar (pv 0) rfl)) (zaa (zdt zex (pv 1) zan (λ_ _=>rfl)) zae))) (zaa (zar (pv 0) rfl) zae))) zae))))
        (zaf (zal (cM O7 hr zab (pv 0) (zaa (pv 2) zae)))))))))))))),?_⟩
  have htH:=W.same.tup ht
  have hlen:=W.clen
  refine⟨_,rfl,t,_,_,_,rfl,rfl,htH,rfl,?_⟩
  have rest:(x=.times\/x=.over\/x=.alike\/x=.compare)->After K ad H0 wk k d ps dx lo le Q E (zbd [] ps x m):=λhx=>by
   rcases hx with rfl|rfl|rfl|rfl <;> exact q
  cases x with
  |zero=>
   refine⟨_,rfl,rfl,_,rfl,zb3 (λ_=>?_) (λh=>absurd (by simp only[sxW];decide +kernel) h)⟩
   refine⟨_,rfl,wk,ad.Work,dx,_,_,rfl,W.ob,T.l_Work,T.n_Work_came,rfl,.inl ⟨rfl,_,SqL.of W.came⟩,_,rfl,wk,dx,_,rfl,W.ob,rfl,H0,wk,k,d,ps,m,dx,lo,le,lc,ers,crs,rfl,W,h24,?_⟩
   simp only[zbd]at q
   cases e:more 1 m.s with
   |error v=>rw[e]at q;exact q.2
   |ok z=>
    rw[e]at q
    intro H1 a W1 f1 ha
    refine⟨lc,_,_,rfl,rfl,W1.came,by rw[qec,hlen];exact zg4 (by lia),?_⟩
    exact q _ _ _ _ (W1.push ha (zat _))
  |number=>
   refine⟨_,rfl,rfl,_,rfl,zb3 (λh=>absurd (of_decide_eq_true h) (by simp only[sxW];decide +kernel)) (λ_=>?_)⟩
   refine⟨_,rfl,rfl,_,rfl,zb3 (λ_=>?_) (λh=>absurd (by simp only[sxW];decide +kernel) h)⟩
   refine⟨_,rfl,wk,ad.Work,dx,_,_,rfl,W.ob,T.l_Work,T.n_Work_came,rfl,.inl ⟨rfl,_,SqL.of W.came⟩,rfl,λr H1 n1 s1 e1=>?_⟩
   simp only[zbd]at q
   have W1:=W.toSame s1
   refine⟨lc,_,_,rfl,rfl,W1.came,by rw[qec,hlen];exact zg4 (by lia),?_⟩
   exact q _ _ _ _ (W1.push (x:=nought) e1 zb5)
  |name y=>
   refine⟨_,rfl,rfl,_,rfl,zb3 (λh=>absurd (of_decide_eq_true h) (by simp only[sxW];decide +kernel)) (λ_=>?_)⟩
   refine⟨_,rfl,rfl,_,rfl,zb3 (λh=>absurd (of_decide_eq_true h) (by simp only[sxW];decide +kernel)) (λ_=>?_)⟩
   refine⟨_,rfl,rfl,_,rfl,zb3 (λ_=>?_) (λh=>absurd (by simp only[sxW];decide +kernel) h)⟩
   refine⟨_,rfl,wk,ad.Work,dx,_,_,rfl,W.ob,T.l_Work,T.n_Work_came,rfl,.inl ⟨rfl,_,SqL.of W.came⟩,_,rfl,wk,dx,_,rfl,W.ob,rfl,_,rfl,t,_,_,_,rfl,rfl,htH,rfl,H0,wk,k,d,ps,m,dx,lo,le,lc,ers,crs,y,known,rfl,W,hk,kok,h24,?_⟩
   simp only[zbd]at q
   cases ei:ps.idxOf? y with
   |some j=>
    rw[ei]at q
    intro a ha
    refine⟨lc,_,_,rfl,rfl,W.came,by rw[qec,hlen];exact zg4 (by lia),?_⟩
    exact q _ _ _ _ (W.push ha (zat _))
   |none=>
    rw[ei]at q
    dsimp only at q ⊢
    cases ef:known.find? λq=>q.1 == y with
    |none=>rw[ef]at q;exact absurd rfl q.1
    |some p=>
     rw[ef]at q
     dsimp only at q ⊢
     cases e:more p.2.places m.s with
     |error v=>rw[e]at q;exact q.2
     |ok z=>
      rw[e]at q
      intro H1 a W1 f1 ha
      refine⟨lc,_,_,rfl,rfl,W1.came,by rw[qec,hlen];exact zg4 (by lia),?_⟩
      exact q _ _ _ _ (W1.push ha (zfv _ (kok p (qgh ef)).wc))
  |call g n=>
   refine⟨_,rfl,rfl,_,rfl,zb3 (λh=>absurd (of_decide_eq_true h) (by simp only[sxW];decide +kernel)) (λ_=>?_)⟩
   refine⟨_,rfl,rfl,_,rfl,zb3 (λh=>absurd (of_decide_eq_true h) (by simp only[sxW];decide +kernel)) (λ_=>?_)⟩
   refine⟨_,rfl,rfl,_,rfl,zb3 (λh=>absurd (of_decide_eq_true h) (by simp only[sxW];decide +kernel)) (λ_=>?_)⟩
   refine⟨_,rfl,rfl,_,rfl,zb3 (λ_=>?_) (λh=>absurd (by simp only[sxW];decide +kernel) h)⟩
   simp only[zbd]at q
   cases ef:known.find? λq=>q.1 == g with
   |none=>rw[ef]at q;exact absurd rfl q.1
   |some p=>
    rw[ef]at q
    dsimp only at q
    have mp:=qgh ef
    by_cases hl:m.st.length<p.2.of.length
    ·rw[if_pos hl]at q;exact absurd rfl q.1
    ·rw[if_neg hl]at q
     obtain⟨kvs,a,g1,g2,g3⟩:=hk.get ef
     refine⟨_,rfl,wk,dx,_,rfl,W.ob,rfl,_,rfl,wk,ad.Work,dx,_,_,rfl,W.ob,T.l_Work,T.n_Work_known,rfl,_,rfl,t,_,_,_,rfl,rfl,htH,rfl,d,_,rfl,(by rw[<-g2];exact DGet.k (k:=Sum.inr (S g)) (W.same _ _ g1)),?_⟩
     exact⟨H0,wk,k,d,ps,m,dx,lo,le,lc,ers,crs,a,p.2,rfl,W,g3,kok p mp,h6 p mp,by lia,h24,he,hs,q⟩
  |pw n=>
   refine⟨_,rfl,rfl,_,rfl,zb3 (λh=>absurd (of_decide_eq_true h) (by simp only[sxW];decide +kernel)) (λ_=>?_)⟩
   refine⟨_,rfl,rfl,_,rfl,zb3 (λh=>absurd (of_decide_eq_true h) (by simp only[sxW];decide +kernel)) (λ_=>?_)⟩
   refine⟨_,rfl,rfl,_,rfl,zb3 (λh=>absurd (of_decide_eq_true h) (by simp only[sxW];decide +kernel)) (λ_=>?_)⟩
   refine⟨_,rfl,rfl,_,rfl,zb3 (λh=>absurd (of_decide_eq_true h) (by simp only[sxW];decide +kernel)) (λ_=>?_)⟩
   refine⟨_,rfl,rfl,_,rfl,zb3 (λ_=>?_) (λh=>absurd (by simp only[sxW];decide +kernel) h)⟩
   simp only[zbd]at q
   cases er:m.st.reverse with
   |nil=>rw[er]at q;exact absurd rfl q.1
   |cons y r=>
    rw[er]at q
    dsimp only at q
    have est:=rev1 er
    have wy:WF y:=W.wc y (by rw[est];simp)
    obtain⟨cr,p,rfl,hp,g1,W1,kr1⟩:=W.pop est
    have hp':=kr1 _ _ wy hp
    have hr':r.reverse.length<=100000:=by rw[est]at hs;simp at hs;simp;lia
    refine⟨_,rfl,wk,ad.Work,dx,_,_,rfl,W.ob,T.l_Work,T.n_Work_came,rfl,.inl ⟨rfl,_,SqL.of W.came⟩,_,rfl,wk,ad.Work,dx,_,_,rfl,W.ob,T.l_Work,T.n_Work_came,rfl,.inl ⟨rfl,_,SqL.of W.came⟩,lc,_,_,rfl,rfl,W.came,g1,?_⟩
    have hi1:-(2 ^ 64)<n:=by have:=hi.1;have e:(2:Int) ^ 64=18446744073709551616:=by decide
                             rw[e];show (-18446744073709551616:Int)<n;have:-1000<n:=this;lia
    have hi2:n<2 ^ 64:=by have:=hi.2;have e:(2:Int) ^ 64=18446744073709551616:=by decide
                          rw[e];have:n<1000000:=this;lia
    refine⟨_,rfl,t,_,_,_,rfl,rfl,W1.same.tup ht,rfl,p,za6 y,n,rfl,hp',by rw[zbf wy];decide,⟨hi1,hi2⟩,λr1 H1 n1 s1 e1=>?_⟩
    rw[znw]at e1
    have W3:=W1.toSame s1
    have wq:=zbv n wy
    refine⟨_,rfl,wk,ad.Work,dx,_,_,rfl,W3.ob,T.l_Work,T.n_Work_at,rfl,r1,_,k,rfl,e1,wq,λz=>?_,λz=>?_⟩
    ·rw[if_pos z]at q
     refine⟨lc,_,_,rfl,rfl,W3.came,by rw[qec,W3.clen];exact zg4 (by show r.reverse.length<=_;lia),?_⟩
     exact q _ _ _ _ (W3.push e1 wq)
    ·rw[if_neg (by rw[z];decide)]at q
     exact q.2
  |times=>
   refine⟨_,rfl,rfl,_,rfl,zb3 (λh=>absurd (of_decide_eq_true h) (by simp only[sxW];decide +kernel)) (λ_=>?_)⟩
   refine⟨_,rfl,rfl,_,rfl,zb3 (λh=>absurd (of_decide_eq_true h) (by simp only[sxW];decide +kernel)) (λ_=>?_)⟩
   refine⟨_,rfl,rfl,_,rfl,zb3 (λh=>absurd (of_decide_eq_true h) (by simp only[sxW];decide +kernel)) (λ_=>?_)⟩
   refine⟨_,rfl,rfl,_,rfl,zb3 (λh=>absurd (of_decide_eq_true h) (by simp only[sxW];decide +kernel)) (λ_=>?_)⟩
   refine⟨_,rfl,rfl,_,rfl,zb3 (λh=>absurd (of_decide_eq_true h) (by simp only[sxW];decide +kernel)) (λ_=>?_)⟩
   exact⟨_,rfl,wk,dx,_,rfl,W.ob,rfl,_,rfl,H0,wk,k,d,ps,m,dx,lo,le,lc,ers,crs,_,rfl,W,.inl rfl,he,hs,rest (.inl rfl)⟩
  |over=>
   refine⟨_,rfl,rfl,_,rfl,zb3 (λh=>absurd (of_decide_eq_true h) (by simp only[sxW];decide +kernel)) (λ_=>?_)⟩
   refine⟨_,rfl,rfl,_,rfl,zb3 (λh=>absurd (of_decide_eq_true h) (by simp only[sxW];decide +kernel)) (λ_=>?_)⟩
   refine⟨_,rfl,rfl,_,rfl,zb3 (λh=>absurd (of_decide_eq_true h) (by simp only[sxW];decide +kernel)) (λ_=>?_)⟩
   refine⟨_,rfl,rfl,_,rfl,zb3 (λh=>absurd (of_decide_eq_true h) (by simp only[sxW];decide +kernel)) (λ_=>?_)⟩
   refine⟨_,rfl,rfl,_,rfl,zb3 (λh=>absurd (of_decide_eq_true h) (by simp only[sxW];decide +kernel)) (λ_=>?_)⟩
   exact⟨_,rfl,wk,dx,_,rfl,W.ob,rfl,_,rfl,H0,wk,k,d,ps,m,dx,lo,le,lc,ers,crs,.over,rfl,W,.inr (.inl rfl),he,hs,rest (.inr (.inl rfl))⟩
  |alike=>
   refine⟨_,rfl,rfl,_,rfl,zb3 (λh=>absurd (of_decide_eq_true h) (by simp only[sxW];decide +kernel)) (λ_=>?_)⟩
   refine⟨_,rfl,rfl,_,rfl,zb3 (λh=>absurd (of_decide_eq_true h) (by simp only[sxW];decide +kernel)) (λ_=>?_)⟩
   refine⟨_,rfl,rfl,_,rfl,zb3 (λh=>absurd (of_decide_eq_true h) (by simp only[sxW];decide +kernel)) (λ_=>?_)⟩
   refine⟨_,rfl,rfl,_,rfl,zb3 (λh=>absurd (of_decide_eq_true h) (by simp only[sxW];decide +kernel)) (λ_=>?_)⟩
   refine⟨_,rfl,rfl,_,rfl,zb3 (λh=>absurd (of_decide_eq_true h) (by simp only[sxW];decide +kernel)) (λ_=>?_)⟩
   exact⟨_,rfl,wk,dx,_,rfl,W.ob,rfl,_,rfl,H0,wk,k,d,ps,m,dx,lo,le,lc,ers,crs,.alike,rfl,W,.inr (.inr (.inl rfl)),he,hs,rest (.inr (.inr (.inl rfl)))⟩
  |compare=>
   refine⟨_,rfl,rfl,_,rfl,zb3 (λh=>absurd (of_decide_eq_true h) (by simp only[sxW];decide +kernel)) (λ_=>?_)⟩
   refine⟨_,rfl,rfl,_,rfl,zb3 (λh=>absurd (of_decide_eq_true h) (by simp only[sxW];decide +kernel)) (λ_=>?_)⟩
   refine⟨_,rfl,rfl,_,rfl,zb3 (λh=>absurd (of_decide_eq_true h) (by simp only[sxW];decide +kernel)) (λ_=>?_)⟩
   refine⟨_,rfl,rfl,_,rfl,zb3 (λh=>absurd (of_decide_eq_true h) (by simp only[sxW];decide +kernel)) (λ_=>?_)⟩
   refine⟨_,rfl,rfl,_,rfl,zb3 (λh=>absurd (of_decide_eq_true h) (by simp only[sxW];decide +kernel)) (λ_=>?_)⟩
   exact⟨_,rfl,wk,dx,_,rfl,W.ob,rfl,_,rfl,H0,wk,k,d,ps,m,dx,lo,le,lc,ers,crs,.compare,rfl,W,.inr (.inr (.inr rfl)),he,hs,rest (.inr (.inr (.inr rfl)))⟩
end
open Kp169 (Bytes Known more shift alike placesOf renumber closed)
abbrev zn8(l:List Nat):List Int:=l.map λ(n:Nat)=>(n:Int)
def qcj:Sp:=λvs H Q _=>∃(b:Addr)(rs:List Addr)(rows:List Row),vs=[.ref b]/\H b=some (.lst (rs.map V.ref))/\Rows H rs (rows.map za6)/\(∀x∈rows,WF x)/\ztt H Q (zn8 (placesOf rows))
def spAnew:Sp:=λvs H Q _=>∃(a o:Addr)(r:Row)(os:List Nat),vs=[.ref a,.ref o]/\zca H a r/\WF r/\LI H o (zn8 os)/\(∀p∈os,p<24)/\os.length<=24/\ztt H Q (za6 (renumber os r))
def spFrom(ad:Ad):Sp:=λvs H Q _=>∃(b c:Addr)(rs:List Addr)(rows:List Row)(row:Row),vs=[.ref b,.ref c]/\H b=some (.lst (rs.map V.ref))/\Rows H rs (rows.map za6)/\(∀x∈rows,WF x)/\rows.length<=1000/\zca H c row/\WF row ∧
 ∀q H',Same H H'->KindAt ad H' q (closed rows row)->Q (.ref q) H'
theorem zx4(p:Nat):∀os:List Nat,inV (.int (p:Nat)) ((zn8 os).map V.int)=os.contains p
 |[]=>rfl
 |y::os=>by
  have ih:=zx4 p os
  unfold inV at ih ⊢
  show (((y:Int) == (p:Int)) || ((zn8 os).map V.int).any λy=>eqV y (V.int (p:Nat)))=_
  rw[ih,qfv]
  congr 1
  rw[qfy,beq_iff_eq,beq_iff_eq]
  lia
theorem zuz(l:List Int):(l.map V.int).all zly=true:=by rw[qih,qeo];intro x _;rfl
theorem zqv(b:List Nat)(r:Row)(j:Nat):(qfk (j+1)).foldl (λb p=>if pl r p=0 then b else zbm b p) b=(let c:=(qfk j).foldl (λb p=>if pl r p=0 then b else zbm b p) b;if pl r j=0 then c else zbm c j):=by
 rw[qhw,qg9];rfl
theorem Rows.row{H:Hp}{rs:List Addr}{rows:List Row}{i:Nat}{g:Addr}(h:Rows H rs (rows.map za6))(e:rs[i]?=some g):∃r,rows[i]?=some r/\zca H g r:=by
 obtain⟨s,h1,h2⟩:=h.get e
 rw[qeh]at h1
 obtain⟨r,hr,rfl⟩:=qei.mp h1
 exact⟨r,hr,h2⟩
section
variable{P:Program}{w:World}{K:qed}{mg:Str->Option Value}{base:Heap}{ad:Ad}
theorem qaf(T:Txt K mg ad):Ok P w K mg base 2 "places_in_order" ["products"] qcj:=by
 have O1:=zfh (P:=P) (w:=w) (base:=base) T
 refine T.f_places_in_order.ok T.M c_places_in_order (λvs H Q E h=>?_) (λf cdv A outer s0 H vs Q E hr h=>?_)
 ·obtain⟨b,rs,rows,rfl,_⟩:=h
  rfl
 ·obtain⟨b,rs,rows,rfl,hb,hR,hw,q⟩:=h
  refine⟨_,zac (zap (i:=1) c_places_in_order.nd rfl (Or.inl rfl) (zbx zae))
   (zac (zew zbl rfl (zb2 (pv 0)) (zbj (i:=2) c_places_in_order.nd rfl (Or.inl rfl))
    (zaf (zew zbl rfl (znh rfl T.z_enumerate (zaa (cN O1 hr zab (zaa (pv 2) zae)) zae)) (ziz K 3 4 rfl c_places_in_order.nd rfl rfl rfl rfl)
     (zaf (za9 (PW.pt (qbk (zas zo7 (pv 4) zan (zaz _)) (zwi (zas zo6 (pv 3) (pv 1) rfl))))
      (zaf (zal (zh5 qe6 qff qfg zbn (pv 1) (zaa (pv 3) zae)))) zau)))))
   (zaf (zaq (pv 1)))),?_⟩
  refine⟨(by show 0<=sizeLine;decide),λl nl=>?_⟩
  have s1:=zaj (o:=HO.lst []) nl
  refine⟨_,rfl,b,rfl,⟨_,SqL.of (s1 _ _ hb)⟩,zf4 (xs:=rs.map V.ref) (λi σ H'=>∃(v2 v3 v4:Option V),σ=[some (.ref b),some (.ref l),v2,v3,v4]/\Same H H'/\LI H' l (zn8 ((rows.take i).foldl zdl []))) ?_ ?_ ?_ ?_⟩
  ·exact⟨none,none,none,rfl,s1,zad⟩
  ·rintro i σ H' _ ⟨v2,v3,v4,_,s2,_⟩
   exact SqL.of (s2 _ _ hb)
  ·rintro i x σ H' hx ⟨v2,v3,v4,rfl,s2,e2⟩
   rw[qeh]at hx
   obtain⟨g,hg,rfl⟩:=qei.mp hx
   obtain⟨r,hrow,eg⟩:=(hR.same s2).row hg
   have wr:=hw r (qe7 hrow)
   have estep:(rows.take (i+1)).foldl zdl []=zdl ((rows.take i).foldl zdl []) r:=by
    rw[qfn (l:=rows) (i:=i),hrow,qf6,qg9];rfl
   have oo:=(zh6 (rows.take i) [] ⟨by simp,by simp⟩).1
   generalize hc:(rows.take i).foldl zdl []=c at *
   refine⟨_,rfl,g,za6 r,rfl,eg,λr4 H4 n4 s4 e4=>?_⟩
   rw[zcp wr]at e4
   have nr:r4≠l:=(zai e2 n4).symm
   refine⟨r4,_,rfl,SqL.of e4,zjk (xs:=r.place.map V.int) (λj σ H'=>∃(v3 v4:Option V),σ=[some (.ref b),some (.ref l),some (.ref g),v3,v4]/\Same H H'/\LI H' r4 r.place/\LI H' l (zn8 ((qfk j).foldl (λb p=>if pl r p=0 then b else zbm b p) c))) ?_ ?_ ?_ ?_⟩
   ·exact⟨_,_,rfl,s2.trans s4,e4,s4 _ _ e2⟩
   ·rintro j σ H5 _ ⟨v3,v4,_,_,e5,_⟩
    exact SqL.of e5
   ·rintro j x T' σ H5 hx nT ⟨v3,v4,rfl,s5,e5,e6⟩
    rw[qeh]at hx
    obtain⟨e,he,rfl⟩:=qei.mp hx
    have sT:=zaj (o:=HO.tup [V.int (j:Nat),V.int e]) nT
    have hj:j<24:=by have:=(qef.mp he).1;rw[wr.p]at this;exact this
    have epl:pl r j=e:=by unfold pl;rw[qfj,he];rfl
    have olen:((qfk j).foldl (λb p=>if pl r p=0 then b else zbm b p) c).length<=24:=by
     have:=(zgq r (qfk j) c oo (λp hp=>by have:=qgo.mp hp;lia)).1
     exact znn 24 _ this.nd this.lt
    refine⟨T',_,rfl,.inl (.inl zad),rfl,_,_,rfl,_,_,rfl,rfl,?_⟩
    refine⟨_,rfl,rfl,_,rfl,?_⟩
    rw[ne0]
    have etake:=zqv c r j
    dsimp only at etake
    generalize hcj:(qfk j).foldl (λb p=>if pl r p=0 then b else zbm b p) c=cj at *
    by_cases h0:e=0
    ·rw[decide_eq_true h0]
     refine⟨_,_,rfl,s5.trans sT,sT _ _ e5,?_⟩
     rw[etake,if_pos (epl.trans h0)]
     exact sT _ _ e6
    ·rw[decide_eq_false h0]
     refine⟨_,rfl,_,rfl,l,_,rfl,.inl (SqL.of (sT _ _ e6)),rfl,zuz _,_,rfl,?_⟩
     show if (!inV (V.int (j:Nat)) ((zn8 cj).map V.int))=true then _ else _
     rw[zx4]
     rw[if_neg (λz=>h0 (epl.symm.trans z))]at etake
     cases hcont:cj.contains j with
     |true=>
      rw[show zbm cj j=cj by unfold zbm;rw[hcont];rfl]at etake
      refine⟨_,_,rfl,s5.trans sT,sT _ _ e5,?_⟩
      rw[etake]
      exact sT _ _ e6
     |false=>
      rw[show zbm cj j=cj++[j] by unfold zbm;rw[hcont];rfl]at etake
      refine⟨_,rfl,.inl ⟨rfl,_,SqL.of (sT _ _ e6)⟩,_,rfl,l,_,_,rfl,rfl,sT _ _ e6,by rw[qec,qec];exact zg4 (by lia),?_⟩
      refine⟨_,_,rfl,zay (s5.trans sT) nl _,?_,?_⟩
      ·show upd _ _ _ _=_
       rw[zah nr];exact sT _ _ e5
      ·show upd _ _ _ _=_
       rw[zad,etake];simp[zn8]
   ·rintro σ H5 ⟨v3,v4,rfl,s5,e5,e6⟩
    refine⟨_,_,_,rfl,s5,?_⟩
    rw[qec,wr.p]at e6
    rw[estep];exact e6
  ·rintro σ H' ⟨v2,v3,v4,rfl,s2,e2⟩
   rw[qec,hR.len,qec,qf0,<-zgn]at e2
   exact⟨_,rfl,q l H' nl s2 e2⟩
theorem qdm(T:Txt K mg ad):Ok P w K mg base 2 "numbered_anew" ["product","order"] spAnew:=by
 have O1:=zfh (P:=P) (w:=w) (base:=base) T
 have O2:=zjg (P:=P) (w:=w) (base:=base) T
 obtain⟨t2,hP⟩:=T.k_PLACES
 refine T.f_numbered_anew.ok T.M c_numbered_anew (λvs H Q E h=>?_) (λf cdv A outer s0 H vs Q E hr h=>?_)
 ·obtain⟨a,o,r,os,rfl,_⟩:=h
  rfl
 ·obtain⟨a,o,r,os,rfl,ha,wr,ho,h24,hl,q⟩:=h
  refine⟨_,zac (zap (i:=2) c_numbered_anew.nd rfl (Or.inr rfl) (cN O1 hr zab (zaa (pv 0) zae)))
   (zaf (zaq (zbc zgg (zbc zgg (cN O2 hr zab (zaa (pv 0) zae))
     (zlt (own:=[("place",3)]) rfl c_numbered_anew.nd (zb2 (pv 1)) (zbr (by rfl)) (λ_ _ _ _ _=>zbj (i:=3) c_numbered_anew.nd rfl (Or.inl rfl)) (λ_ _ _ _ _=>zco) (λ_ _ _ _ _=>zdt (r:=rIxL K) zfl (pv 2) (pv 3) (λ_ _=>rfl))))
    (zbc zsx (zbx (zaa zan zae)) (zbc zkg (zav (v:=.int 24) rfl hP ⟨_,rfl⟩) (za3 za7 rfl T.z_len (by decide +kernel) (zaa (pv 1) zae))))))),?_⟩
  refine⟨_,rfl,a,za6 r,rfl,ha,λr1 H1 n1 s1 e1=>?_⟩
  rw[zcp wr]at e1
  refine⟨_,rfl,a,za6 r,rfl,s1 _ _ ha,λr2 H2 n2 s2 e2=>?_⟩
  rw[zdq wr]at e2
  refine⟨_,rfl,o,rfl,⟨_,SqL.of (s2 _ _ (s1 _ _ ho))⟩,λD hD=>?_⟩
  refine znt (λk=>r.place.getD k.toNat 0) 3 hD (SqL.of (s2 _ _ (s1 _ _ ho))) (by rw[qec];lia) (λ_=>rfl) (λz H3 Q' hz s3 h=>?_) λH3 s3 e3=>?_
  ·obtain⟨p,hp,rfl⟩:=qe1.mp hz
   have hlt:=h24 p hp
   have hpl:p<r.place.length:=by rw[wr.p];exact hlt
   refine⟨_,rfl,_,rfl,r1,_,_,_,rfl,rfl,s3.seq (SqL.of (s2 _ _ e1)),zfr (v:=V.int (r.place.getD p 0)) ?_,?_⟩
   ·rw[qeh,qe3 hpl];simp[hpl]
   ·simpa using h
  ·have S3:=s1.trans (s2.trans s3)
   refine⟨r2,D,_,_,rfl,rfl,s3 _ _ e2,e3,?_,λr4 n4=>?_⟩
   ·rw[qec,qec,qec,qec,wr.m];exact big (by lia)
   have s4:=zaj (o:=HO.lst (r.mark.map V.int++((zn8 os).map (λk=>r.place.getD k.toNat 0)).map V.int)) n4
   refine⟨(by show 1<=sizeLine;decide),λl hl'=>?_⟩
   have s5:=zaj (o:=HO.lst [V.int 0]) hl'
   refine⟨_,rfl,o,_,rfl,.inl (SqL.of (s5 _ _ (s4 _ _ (S3 _ _ ho)))),zsm rfl rfl (n:=((24 - os.length:Nat):Int)) ?_ ?_⟩
   ·rw[qec,qec];lia
   refine⟨l,_,_,rfl,rfl,zad,?_,?_,?_,λr6 n6=>?_⟩
   ·lia
   ·lia
   ·show 1*_<=_
    rw[show ((24 - os.length:Nat):Int).toNat=24 - os.length by simp]
    exact big (by lia)
   have s6:=zaj (o:=HO.lst (qem (((24 - os.length:Nat):Int).toNat) [V.int 0]).flatten) n6
   refine⟨r4,r6,_,_,rfl,rfl,s6 _ _ (s5 _ _ zad),zad,?_,λr7 n7=>?_⟩
   ·rw[zhg,qee,qec,qec,qec,qec,qec,qh2,wr.m]
    rw[show ((24 - os.length:Nat):Int).toNat=24 - os.length by simp]
    exact big (by lia)
   have S7:=S3.trans (s4.trans (s5.trans s6))
   refine q r7 _ (S7.free n7) (S7.trans (zaj n7 _)) ?_
   show upd _ _ _ _=_
   have em:(zn8 os).map (λk=>r.place.getD k.toNat 0)=os.map (pl r):=by
    rw[qh7]
    refine qf2 λp hp=>?_
    simp[pl]
   rw[zad,<-znv hl,zhg,show ((24 - os.length:Nat):Int).toNat=24 - os.length by simp,em,qej,qej]
theorem qdj(T:Txt K mg ad):Ok P w K mg base 3 "kind_from" ["parameters","comes"] (spFrom ad):=by
 have O1:=qaf (P:=P) (w:=w) (base:=base) T
 have O2:=qdm (P:=P) (w:=w) (base:=base) T
 have O3:=zxe (P:=P) (w:=w) (base:=base) T
 refine T.f_kind_from.ok T.M c_kind_from (λvs H Q E h=>?_) (λf cdv A outer s0 H vs Q E hr h=>?_)
 ·obtain⟨b,c,rs,rows,row,rfl,_⟩:=h
  rfl
 ·obtain⟨b,c,rs,rows,row,rfl,hb,hR,hw,hl,hc,wc,q⟩:=h
  refine⟨_,zac (zap (i:=2) c_kind_from.nd rfl (Or.inr rfl) (cN O1 hr zab (zaa (zbc zgg (pv 0) (zbx (zaa (pv 1) zae))) zae)))
   (zaf (zaq (cC O3 hr zab (zaa
     (zlt (own:=[("product",3)]) rfl c_kind_from.nd (zb2 (pv 0)) (zbr (by rfl)) (λ_ _ _ _ _=>zbj (i:=3) c_kind_from.nd rfl (Or.inl rfl)) (λ_ _ _ _ _=>zco) (λ_ _ _ _ _=>cN O2 hr th0 (zaa (pv 3) (zaa (pv 2) zae))))
    (zaa (cN O2 hr zab (zaa (pv 1) (zaa (pv 2) zae))) (zaa (za3 za7 rfl T.z_len (by decide +kernel) (zaa (pv 2) zae)) zae)))))),?_⟩
  refine⟨_,rfl,_,rfl,(by show 1<=sizeLine;decide),λl nl=>?_⟩
  have s1:=zaj (o:=HO.lst [V.ref c]) nl
  have rlen:rs.length=rows.length:=by have:=hR.len;rw[qec]at this;exact this
  refine⟨b,l,_,_,rfl,rfl,s1 _ _ hb,zad,by rw[qec];exact big (by simp;lia),λp np=>?_⟩
  have s2:=zaj (o:=HO.lst (rs.map V.ref++[V.ref c])) np
  refine⟨p,rs++[c],rows++[row],rfl,by rw[zad,qej];rfl,by rw[qej];exact Rows.push (hR.same (s1.trans s2)) (s2 _ _ (s1 _ _ hc)),λx hx=>?_,λo H2 n2 s3 e3=>?_⟩
  ·rcases qeq.mp hx with hx|hx
   ·exact hw x hx
   ·rw[qew.mp hx];exact wc
  obtain⟨g1,g2,g3⟩:=zgm (rows++[row])
  have ecl:closed rows row=⟨rows.length,(placesOf (rows++[row])).length,rows.map (renumber (placesOf (rows++[row]))),renumber (placesOf (rows++[row])) row⟩:=rfl
  rw[ecl]at q
  generalize hos:placesOf (rows++[row])=os at *
  have S3:=s1.trans (s2.trans s3)
  refine⟨_,rfl,b,rfl,⟨_,SqL.of (S3 _ _ hb)⟩,λD hD=>?_⟩
  refine zfk (xs:=rs.map V.ref) (λi H6=>∃rs2,Same H2 H6/\H6 D=some (.lst (rs2.map V.ref))/\Rows H6 rs2 (((rows.take i).map (renumber os)).map za6)) ⟨[],zaj hD _,by rw[zad];rfl,Paired.nil⟩ (λi H6 _ ⟨rs2,s6,_⟩=>SqL.of (s6 _ _ (S3 _ _ hb))) (λi x H6 hx ⟨rs2,s6,e6,R6⟩=>?_) λH6 ⟨rs2,s6,e6,R6⟩=>?_
  ·rw[qeh]at hx
   obtain⟨g,hg,rfl⟩:=qei.mp hx
   obtain⟨r,hrow,eg⟩:=(hR.same (S3.trans s6)).row hg
   have wr:=hw r (qe7 hrow)
   refine⟨rfl,_,rfl,_,rfl,g,o,r,os,rfl,eg,wr,s6 _ _ e3,g1.lt,g2,λr7 H7 n7 s7 e7=>?_⟩
   refine⟨_,s7 _ _ e6,?_,rs2++[r7],zay (s6.trans s7) hD _,by rw[zad,qej];rfl,?_⟩
   ·have:=R6.len
    rw[qec,qec,qe2]at this
    rw[qec];exact zg4 (by lia)
   rw[qfn (l:=rows) (i:=i),hrow,qf6,qej,qej]
   refine Rows.off (s7 _ _ e6) (Rows.push (R6.same s7) e7) λl hl=>?_
   rcases qeq.mp hl with hl|hl
   ·obtain⟨u,hu,rfl⟩:=qe1.mp hl
    obtain⟨y',hy',rfl⟩:=qe1.mp hu
    exact zdr (zem (hw y' (qgc hy')))
   ·rw[qew.mp hl];exact zdr (zem wr)
  ·rw[qec,rlen,qf0]at R6
   have S6:=S3.trans s6
   refine⟨_,rfl,_,rfl,c,o,row,os,rfl,S6 _ _ hc,wc,s6 _ _ e3,g1.lt,g2,λr7 H7 n7 s7 e7=>?_⟩
   refine⟨_,rfl,o,_,rfl,.inl (SqL.of (s7 _ _ (s6 _ _ e3))),?_⟩
   intro x dx nx ndx hne
   refine⟨x,dx,D,r7,_,rfl,zad,λH8 e8 f8=>⟨rfl,?_⟩⟩
   have s8:Same H7 H8:=λu v h=>by
    have ux:u≠x:=zai h nx
    have ud:u≠dx:=zai h ndx
    exact f8 _ _ (by rw[zah ux,zah ud];exact h) ux
   refine q x H8 (S6.trans (s7.trans s8)) ?_
   refine⟨dx,D,r7,rs2,?_,s8 _ _ (s7 _ _ e6),R6.same (s7.trans s8),s8 _ _ e7⟩
   rw[qec,qec]at e8
   exact e8
end
end U
namespace L2
open PySem
theorem zwt{X:Cx}(K:qed){e:Expr}{ta:TE}{f:Str}{pos:Pos}(he:PE X e ta)(hb:attributeBase e f X.env (eval e X.env)=eval e X.env)(hK:X.K=K:=by rfl):PE X (.Attribute e f pos) (tFld K ta f):=by
 subst hK
 exact zar he hb
end L2
namespace U
open PySem L2 Mir
open Kp168 (Row nought ofPlace ofMark mul pow Filling itself filled nearest)
open Kp169 (Bytes Known more shift alike placesOf renumber closed)
abbrev zbk:=Kp169.Item
def ze2:zbk->Str
 |.unit _=>"unit"
 |.let_ _ _=>"let"
 |.fn _ _ _=>"fn"
def itf(wd x:Str)(lp ls:Addr):List (Str×V):=[("word",.str wd),("name",.str x),("parameters",.ref lp),("steps",.ref ls)]
noncomputable abbrev zby(l:List Bytes):List V:=l.map λx=>V.str (S x)
def ItemAt(ad:Ad)(H:Hp)(a:Addr)(i:zbk):Prop:=∃(dx lp ls:Addr)(ts:List Addr),H a=some (.ins ad.Item dx (itf (ze2 i) (S i.name) lp ls))/\H lp=some (.lst (zby (params i)))/\H ls=some (.lst (ts.map V.ref))/\Paired (λt x=>H t=some (.tup (sxV x))) ts (zbz i)
theorem ItemAt.same{ad:Ad}{H H':Hp}{a:Addr}{i:zbk}(h:ItemAt ad H a i)(s:Same H H'):ItemAt ad H' a i:=by
 obtain⟨dx,lp,ls,ts,h1,h2,h3,h4⟩:=h
 exact⟨dx,lp,ls,ts,s _ _ h1,s _ _ h2,s _ _ h3,Paired.mapP h4 λ_ _ q=>s _ _ q⟩
theorem ItemAt.sameT{ad:Ad}{H H':Hp}{a:Addr}{i:zbk}(h:ItemAt ad H a i)(s:SameT H H'):ItemAt ad H' a i:=by
 obtain⟨dx,lp,ls,ts,h1,h2,h3,h4⟩:=h
 exact⟨dx,lp,ls,ts,s _ _ h1 (λ_ z=>nomatch z),s _ _ h2 (λ_ z=>nomatch z),s _ _ h3 (λ_ z=>nomatch z),Paired.mapP h4 λ_ _ q=>s _ _ q (λ_ z=>nomatch z)⟩
theorem qc3{α β:Type}{R:α->β->Prop}:∀{l:List α}{m:List β}{i:Nat}{a:α},Paired R l m->l[i]?=some a->∃b,m[i]?=some b/\R a b
 |_,_,_,_,.nil,h=>by simp at h
 |_,_,0,_,.cons a t,h=>by simp at h;subst h;exact⟨_,rfl,a⟩
 |_,_,i+1,_,.cons a t,h=>by
  obtain⟨s,h1,h2⟩:=qc3 (i:=i) t (by simpa using h)
  exact⟨s,by simpa using h1,h2⟩
theorem zrh{l:List Bytes}{x:Bytes}(h:x ∉ l):(l++[x]).idxOf? x=some l.length:=by
 induction l with
 |nil=>simp[qhk]
 |cons y l ih=>
  have h1:¬y=x:=λz=>h (by simp[z])
  have h2:x ∉ l:=λz=>h (by simp[z])
  rw[qfz,qhk,if_neg (by simpa using h1),ih h2];rfl
theorem zrg{l:List Bytes}{x y:Bytes}(h:x≠y):(l++[y]).idxOf? x=l.idxOf? x:=by
 induction l with
 |nil=>
  rw[qfp,qhk,if_neg (by simpa using λz:y=x=>h z.symm)];simp
 |cons z l ih=>
  rw[qfz,qhk,qhk,ih]
theorem qaz{l:List Bytes}{x:Bytes}(h:x ∉ l):l.idxOf? x=none:=by
 rw[List.idxOf?_eq_none_iff];exact h
theorem WAt.ownPut{ad:Ad}{H0 H:Hp}{wk:Addr}{k:Int}{d:Addr}{ps:List Bytes}{m:MS}{dx lo le lc:Addr}{ers crs:List Addr}(W:WAt ad H0 H wk k d ps m dx lo le lc ers crs){a:Addr}{x:Bytes}(ha:zca H a (ofPlace ps.length))(hx:x ∉ ps) :
  ∃kvs,H lo=some (.dK kvs)/\kvs.length<=ps.length/\WAt ad H0 (upd H lo (.dK (zh3 kvs (.inr (S x)) (.ref a)))) wk k d (ps++[x]) m dx lo le lc ers crs:=by
 obtain⟨kvs,h1,h2,h3⟩:=id W.own
 have nr:=zq5 h1
 have kr:=zee nr (.dK (zh3 kvs (.inr (S x)) (.ref a)))
 obtain⟨l1,l2,l3⟩:=W.low
 refine⟨kvs,h1,h2,⟨zay W.same W.f4 _,W.f1,W.f2,W.f3,W.f4,W.ne,by rw[zah l1.symm];exact W.ob,by rw[zah l2.symm];exact W.eqs,W.er.keep kr W.we,by rw[zah l3.symm];exact W.came,W.cr.keep kr W.wc,?_,W.we,W.wc⟩⟩
 have hnone:zez kvs (.inr (S x))=none:=by
  have:=h3 x
  rw[qaz hx]at this
  exact this
 refine⟨_,zad,?_,λy=>?_⟩
 ·rw[zjd _ hnone,qee,qee]
  exact qhd h2 1
 ·rw[zg6]
  by_cases hy:y=x
  ·subst hy
   rw[zrh hx,if_pos rfl]
   exact⟨a,rfl,kr _ _ (zat _) ha⟩
  ·rw[zrg hy,if_neg (λz=>hy (zqc (Sum.inr.inj z)))]
   have:=h3 y
   cases e:ps.idxOf? y with
   |none=>rw[e]at this;exact this
   |some j=>
    rw[e]at this
    obtain⟨b,b1,b2⟩:=this
    exact⟨b,b1,kr _ _ (zat _) b2⟩
def spKoe(K:qed)(ad:Ad):Sp:=λvs H Q E=>∃(k:Int)(it d:Addr)(i:zbk)(known:Known),vs=[.int k,.ref it,.ref d]/\ItemAt ad H it i/\KnownAt ad H d known/\(∀q∈known,KOk q.2)/\(∀q∈known,q.2.of.length<=6)/\(params i).length<=6/\(params i).Nodup ∧
 zve known (params i) (zbz i)/\(zbz i).length<=10000/\(∀x∈zbz i,-1000<sxI x/\sxI x<1000000)/\TOk ad H ∧
 match zhp known (params i) (zbz i) with
 |.inl v=>zaw K ad.R E v k
 |.inr q=>∀a H',SameT H H'->TOk ad H'->KindAt ad H' a q->Q (.ref a) H'
theorem OwnAt.sameT{H H':Hp}{lo:Addr}{ps:List Bytes}(h:OwnAt H lo ps)(s:SameT H H'):OwnAt H' lo ps:=
 h.keep (λo e=>s _ _ e (by obtain⟨kvs,h1,_⟩:=h;rw[h1]at e;cases e;exact λ_ z=>nomatch z)) λa r _ q=>s _ _ q (λ_ z=>nomatch z)
theorem idx_at{l:List Bytes}{x:Bytes}{j:Nat}(hn:l.Nodup)(h:l[j]?=some x):l.idxOf? x=some j:=by
 obtain⟨hj,e⟩:=qef.mp h
 refine qht.mpr ⟨hj,by simp[e],λk hk=>?_⟩
 have:l[k]'(by lia)≠l[j]:=λz=>by
  have:=(qix hn).mp z
  lia
 rw[e]at this
 simpa using this
theorem qap{l:List Bytes}{x:Bytes}{j:Nat}(hn:l.Nodup)(h:l[j]?=some x):x ∉ l.take j:=λz=>by
 obtain⟨k,hk,e⟩:=qgy.mp z
 rw[List.getElem_take]at e
 obtain⟨hj,e2⟩:=qef.mp h
 rw[qe2]at hk
 have:=(qix hn).mp (e.trans e2.symm)
 lia
section
variable{P:Program}{w:World}{K:qed}{mg:Str->Option Value}{base:Heap}{ad:Ad}
theorem ok_koe(T:Txt K mg ad)(hK:K.In base)(hB:base.BuiltinsAt mg ad.pNP):Ok P w K mg base 8 "kind_of_expression" ["at","item","known"] (spKoe K ad):=by
 have O1:=qdn (P:=P) (w:=w) (base:=base) T
 have O2:=zkj (P:=P) (w:=w) (base:=base) T
 have O3:=ok_go (P:=P) (w:=w) (base:=base) T
 have O4:=zw3 (P:=P) (w:=w) T hK hB
 have O5:=znm (P:=P) (w:=w) (base:=base) T
 have O6:=zxb (P:=P) (w:=w) (base:=base) T
 have O7:=qdj (P:=P) (w:=w) (base:=base) T
 have X1:=zf0 (P:=P) (w:=w) (base:=base) T
 obtain⟨t1,hM⟩:=T.k_MOST_EQUATIONS
 refine T.f_kind_of_expression.ok T.M c_kind_of_expression (λvs H Q E h=>?_) (λf cdv A outer s0 H vs Q E hr h=>?_)
 ·obtain⟨k,it,d,i,known,rfl,_⟩:=h
  rfl
 ·obtain⟨k,it,d,i,known,rfl,hit,hkn,kok,h6,hp6,hnd,hrun,hst,hsx,ht,q⟩:=h
  have h1:Room 2 _:=hr.mono (by decide:2<=7)
  have h3:Room 3 _:=hr.mono (by decide:3<=7)
  have h4:Room 4 _:=hr.mono (by decide:4<=7)
  have h5:Room 5 _:=hr.mono (by decide:5<=7)
  have hx6:Room 6 _:=hr.mono (by decide:6<=7)
  have hu:=zpk hr
  obtain⟨idx,lp,ls,ts,i1,i2,i3,i4⟩:=hit
  refine⟨_,zac (zap (i:=3) c_kind_of_expression.nd rfl (Or.inr rfl) (cC O1 h1 zab (zaa (pv 0) (zaa (pv 2) zae))))
   (zac (zew zbl rfl (zb2 (zar (pv 1) rfl)) (zbj (i:=4) c_kind_of_expression.nd rfl (Or.inl rfl))
    (zaf (zkc hu (zar (pv 3) rfl) (pv 4) (cM0 O2 h5 zab (pv 3)) (by rfl))))
   (zac (zew zbl rfl (zb2 (zar (pv 1) rfl)) (zbj (i:=5) c_kind_of_expression.nd rfl (Or.inl rfl))
    (zaf (zal (cM O3 hx6 zab (pv 3) (zaa (pv 5) zae)))))
   (zac (za9 (zas zni (za3 za7 rfl T.z_len (by decide +kernel) (zaa (zar (pv 3) rfl) zae)) (zav (v:=.int 256) rfl hM ⟨_,rfl⟩) (zaz _)) (zaf (zng X1 h3 zab (pv 0))) zau)
   (zac (zap (i:=6) c_kind_of_expression.nd rfl (Or.inr rfl) (cN O4 hr zab (zaa (zar (pv 3) rfl) (zaa (zar (pv 3) rfl) (zaa (pv 0) zae)))))
   (zac (zo1 (i:=7) (own:=[("name",4)]) zab rfl rfl rfl c_kind_of_expression.nd rfl rfl (by rfl) (zb2 (zar (pv 1) rfl)) (zbr (by rfl)) (λ_ _ _ _ _=>zbj (i:=4) c_kind_of_expression.nd rfl (Or.inl rfl)) (λ_ _ _ _ _=>zco)
     (λ_ _ _ _ _ _ th=>cN O5 h4 th (zaa (cN O6 h1 th (zaa (zfd (by exact hu) (zwt K (pv 3) rfl) (pv 4) (λ_ _=>rfl)) (zaa (pv 6) zae))) (zaa (pv 0) zae))))
   (zaf (zaq (cN O7 h3 zab (zaa (pv 7) (zaa (cN O5 h4 zab (zaa (cN O6 h1 zab (zaa (zdt zfl (zar (pv 3) rfl) zan (λ_ _=>rfl)) (zaa (pv 6) zae))) (zaa (pv 0) zae))) zae)))))))))),?_⟩
  refine⟨_,rfl,_,rfl,λwk dx nx ndx hne=>⟨wk,dx,d,k,rfl,zad,λlo le lc H1 nlo nle nlc hne2 eob elo ele elc f1=>⟨rfl,?_⟩⟩⟩
  have sA:Same H (upd (upd H dx (.own wk)) wk (.ins ad.Work dx [])):=zay (zaj ndx _) nx _
  have sB:Same H H1:=λu v h=>f1 _ _ (sA _ _ h) (zai h nx)
  generalize hps:params i=ps at *
  have W0:WAt ad H H1 wk k d [] (zd8 0) dx lo le lc [] []:=⟨sB,nx,sA.free nle,sA.free nlc,sA.free nlo,hne2,eob,ele,Paired.nil,elc,Paired.nil,⟨[],elo,qek _,λx=>rfl⟩,λx hx=>by simp[zd8]at hx,λx hx=>by simp[zd8]at hx⟩
  refine⟨_,rfl,it,ad.Item,idx,_,_,rfl,sB _ _ i1,T.l_Item,T.n_Item_parameters,rfl,lp,rfl,⟨_,SqL.of (sB _ _ i2)⟩,zf4 (xs:=zby ps) (λj σ H'=>∃(v4:Option V),σ=[some (.int k),some (.ref it),some (.ref d),some (.ref wk),v4,none,none,none]/\WAt ad H H' wk k d (ps.take j) (zd8 j) dx lo le lc [] []) ⟨none,rfl,W0⟩ (λj σ H' _ ⟨v4,_,W⟩=>SqL.of (W.same _ _ i2)) ?_ ?_⟩
  ·rintro j x σ H' hx ⟨v4,rfl,W⟩
   rw[qeh]at hx
   obtain⟨y,hy,rfl⟩:=qei.mp hx
   have hj:=(qef.mp hy).1
   have lj:(ps.take j).length=j:=by rw[qe2];lia
   refine⟨_,rfl,wk,dx,_,rfl,W.ob,rfl,H,wk,k,d,_,_,dx,lo,le,lc,[],[],rfl,W,by show j<=24;lia,?_⟩
   have em:more 1 (zd8 j).s=.ok (j,⟨j+1,[]⟩):=by
    unfold more;rw[if_pos (by show j+1<=24;lia)];rfl
   rw[em]
   intro H2 a W2 f2 ha
   obtain⟨kvs,g1,g2,W3⟩:=W2.ownPut (a:=a) (x:=y) (by rw[lj];exact ha) (qap hnd hy)
   refine⟨_,rfl,wk,ad.Work,dx,_,_,rfl,W2.ob,T.l_Work,T.n_Work_own,rfl,_,rfl,lo,_,rfl,DPut.k (k:=Sum.inr (S y)) g1 (zg4 (by lia)),_,rfl,?_⟩
   rw[qfn (l:=ps) (i:=j),hy,qf6]
   exact W3
  rintro σ H2 ⟨v4,rfl,W1⟩
  rw[qec,qf0]at W1
  refine⟨_,rfl,it,ad.Item,idx,_,_,rfl,W1.same _ _ i1,T.l_Item,T.n_Item_steps,rfl,ls,rfl,⟨_,SqL.of (W1.same _ _ i3)⟩,zf4 (xs:=ts.map V.ref) (λj σ H'=>∃(v5:Option V)(m:MS)(lc:Addr)(ers crs:List Addr),σ=[some (.int k),some (.ref it),some (.ref d),some (.ref wk),v4,v5,none,none]/\WAt ad H H' wk k d ps m dx lo le lc ers crs ∧
   zji known ps ((zbz i).drop j) m=zji known ps (zbz i) (zd8 ps.length)/\MOk ps.length m/\m.s.eqs.length<=6*j/\m.st.length<=j) ⟨none,_,lc,[],[],rfl,W1,by rw[qgx],zjw (by lia),qek _,qek _⟩ (λj σ H' _ ⟨v5,m,lc,ers,crs,_,W,_⟩=>SqL.of (W.same _ _ i3)) ?_ ?_⟩
  ·rintro j x σ H' hx ⟨v5,m,lc,ers,crs,rfl,W,hm,mok,z1,z2⟩
   rw[qeh]at hx
   obtain⟨t,hjt,rfl⟩:=qei.mp hx
   obtain⟨sx,hsj,et⟩:=qc3 i4 hjt
   obtain⟨hj,hj2⟩:=qef.mp hsj
   have hdrop:(zbz i).drop j=sx::(zbz i).drop (j+1):=by
    rw[qfb hj,hj2]
   rw[hdrop,zji]at hm
   refine⟨_,rfl,wk,dx,_,rfl,W.ob,rfl,_,rfl,H,wk,k,d,ps,m,dx,lo,le,lc,ers,crs,sx,t,known,rfl,W,.inl (.inl et),hkn,kok,h6,mok.le,by lia,by lia,hsx sx (qe7 hsj),?_⟩
   cases e:zbd known ps sx m with
   |error v=>
    rw[e]at hm
    dsimp only at hm
    unfold zve at hrun
    rw[<-hm]at hrun
    have ei:zhp known ps (zbz i)=.inl v:=by unfold zhp;rw[<-hm]
    rw[ei]at q
    exact⟨hrun,q⟩
   |ok m'=>
    rw[e]at hm
    intro H' lc' ers' crs' W'
    have:=zuo h6 e
    exact⟨_,m',lc',ers',crs',rfl,W',hm,zs7 kok mok e,by lia,by lia⟩
  rintro σ H3 ⟨v5,m,lc,ers,crs,rfl,W,hm,mok,z1,z2⟩
  have lts:ts.length=(zbz i).length:=Paired.length i4
  rw[qec,lts,qgl,zji]at hm
  have eit:zhp known ps (zbz i)=(if 256<m.s.eqs.length then .inl (-28) else match zdv m.s.n m.s.eqs with
   |.inl v=>.inl v
   |.inr o=>if ((qfk ps.length).map λk=>filled o (ofPlace k)).all Kp168.small && Kp168.small (filled o (m.st.headD nought)) then
    .inr (closed ((qfk ps.length).map λk=>filled o (ofPlace k)) (filled o (m.st.headD nought))) else .inl (-75)):=by
   unfold zhp;rw[<-hm] <;> rfl
  unfold zve at hrun
  rw[<-hm]at hrun
  obtain⟨r,est⟩:∃r,m.st=[r]:=hrun
  rw[eit]at q
  have elen:ers.length=m.s.eqs.length:=by have:=W.er.len;rw[qec]at this;exact this
  refine⟨_,rfl,wk,ad.Work,dx,_,_,rfl,W.ob,T.l_Work,T.n_Work_equations,rfl,le,_,rfl,.inl (SqL.of W.eqs),_,_,rfl,rfl,_,rfl,zb3 (λc1=>?_) (λc1=>?_)⟩
  ·have c1:(256:Int)<(((ers.map V.ref).length:Nat):Int):=of_decide_eq_true c1
   rw[qec,elen]at c1
   rw[if_pos (by lia)]at q
   exact⟨_,rfl,k,rfl,q⟩
  have c1:¬(256:Int)<(((ers.map V.ref).length:Nat):Int):=of_decide_eq_false (qfd.mpr c1)
  rw[qec,elen]at c1
  rw[if_neg (by lia)]at q
  refine⟨_,rfl,wk,ad.Work,dx,_,_,rfl,W.ob,T.l_Work,T.n_Work_equations,rfl,_,rfl,wk,ad.Work,dx,_,_,rfl,W.ob,T.l_Work,T.n_Work_used,rfl,_,rfl,le,m.s.eqs,ers,m.s.n,k,rfl,W.eqs,W.er,mok.eq,mok.le,ht.same W.same,?_⟩
  cases es:zdv m.s.n m.s.eqs with
  |inl v=>rw[es]at q;exact q
  |inr o=>
   have ehd:m.st.headD nought=r:=by rw[est];rfl
   rw[es,ehd]at q
   dsimp only at q
   intro b' rs' H4 hb' R' so sm sT tT
   have hr0:=mok.st r (by rw[est];simp)
   have S4:SameT H H4:=W.same.t.trans sT
   have i1':=S4 _ _ i1 (λ_ z=>nomatch z)
   have i2':=S4 _ _ i2 (λ_ z=>nomatch z)
   have ob':H4 wk=_:=sT _ _ W.ob (λ_ z=>nomatch z)
   have own':=W.own.sameT sT
   have came':H4 lc=_:=sT _ _ W.came (λ_ z=>nomatch z)
   have cr':=W.cr.sameT sT
   rw[est]at cr'
   have hlen24:o.length<=24:=by rw[so.len];exact so.le
   let rowP:Nat->Row:=λp=>filled o (ofPlace p)
   refine⟨_,rfl,it,ad.Item,idx,_,_,rfl,i1',T.l_Item,T.n_Item_parameters,rfl,lp,rfl,⟨_,SqL.of i2'⟩,λD hD=>?_⟩
   refine zfk (xs:=zby ps) (λj H6=>∃rs2,Same H4 H6/\H6 D=some (.lst (rs2.map V.ref))/\Rows H6 rs2 (((qfk j).map rowP).map za6)/\((qfk j).map rowP).all Kp168.small=true) ⟨[],zaj hD _,by rw[zad];rfl,Paired.nil,rfl⟩ (λj H6 _ ⟨rs2,s6,_⟩=>SqL.of (s6 _ _ i2')) (λj x H6 hx ⟨rs2,s6,e6,R6,a6⟩=>?_) λH6 ⟨rs2,s6,e6,R6,a6⟩=>?_
   ·rw[qeh]at hx
    obtain⟨y,hy,rfl⟩:=qei.mp hx
    have hj:=(qef.mp hy).1
    obtain⟨kvs,o1,o2,o3⟩:=own'
    have o3y:=o3 y
    rw[idx_at hnd hy]at o3y
    obtain⟨a,a1,a2⟩:=o3y
    have wfj:WF (rowP j):=zbs (zat j) so.wf
    refine⟨rfl,_,rfl,wk,ad.Work,dx,_,_,rfl,s6 _ _ ob',T.l_Work,T.n_Work_own,rfl,_,rfl,lo,_,rfl,(by rw[<-a1];exact DGet.k (k:=Sum.inr (S y)) (s6 _ _ o1)),_,rfl,a,b',ofPlace j,rs',o,rfl,s6 _ _ a2,s6 _ _ hb',R'.same s6,zat j,so.wf,hlen24,zck j,λr7 H7 n7 s7 e7=>?_⟩
    refine⟨_,rfl,r7,rowP j,k,rfl,e7,wfj,λz=>?_,λz=>?_⟩
    ·refine⟨_,s7 _ _ e6,?_,rs2++[r7],zay (s6.trans s7) hD _,by rw[zad,qej];rfl,?_,?_⟩
     ·have:=R6.len
      rw[qec,qec,qir]at this
      rw[qec];exact zg4 (by lia)
     ·rw[qhw,qej,qej]
      refine Rows.off (s7 _ _ e6) (Rows.push (R6.same s7) e7) λl hl=>?_
      rcases qeq.mp hl with hl|hl
      ·obtain⟨u,hu,rfl⟩:=qe1.mp hl
       obtain⟨y',hy',rfl⟩:=qe1.mp hu
       exact zdr (zbs (zat y') so.wf)
      ·rw[qew.mp hl];exact zdr wfj
     ·rw[qhw,qej,qf3,a6]
      simp[z]
    ·have:((qfk ps.length).map rowP).all Kp168.small=false:=by
      rw[qfd]
      intro y2
      have:=qeo.mp y2 (rowP j) (qe1.mpr ⟨j,qgo.mpr hj,rfl⟩)
      rw[z]at this;cases this
     rw[this]at q
     exact q
   ·rw[qec]at R6 a6
    rw[show ((qfk ps.length).map λk=>filled o (ofPlace k))=(qfk ps.length).map rowP from rfl,a6]at q
    obtain⟨c1,cq⟩:∃c,crs=[c]/\zca H4 c r:=by
     cases cr' with
     |cons h t=>cases t;exact⟨_,rfl,h⟩
    obtain⟨rfl,hc1⟩:=cq
    have wfr:WF (filled o r):=zbs hr0.wf so.wf
    refine⟨_,rfl,_,rfl,wk,ad.Work,dx,_,_,rfl,s6 _ _ ob',T.l_Work,T.n_Work_came,rfl,lc,_,_,_,rfl,rfl,SqL.of (s6 _ _ came'),rfl,_,rfl,c1,b',r,rs',o,rfl,s6 _ _ hc1,s6 _ _ hb',R'.same s6,hr0.wf,so.wf,hlen24,hr0.sm,λr7 H7 n7 s7 e7=>?_⟩
    refine⟨_,rfl,r7,filled o r,k,rfl,e7,wfr,λz=>?_,λz=>?_⟩
    ·rw[z]at q
     refine⟨D,r7,rs2,_,filled o r,rfl,s7 _ _ e6,R6.same s7,λx hx=>?_,by rw[qec,qir];lia,e7,wfr,λa H8 s8 k8=>?_⟩
     ·obtain⟨y',_,rfl⟩:=qe1.mp hx
      exact zbs (zat y') so.wf
     ·exact q a H8 (S4.trans (s6.trans (s7.trans s8)).t) (tT.same (s6.trans (s7.trans s8))) k8
    ·rw[z]at q
     exact q
end
open Kp169 (Bytes Known more shift alike placesOf renumber closed rightItem)
def Fine(i:zbk):Prop:=(zbz i).length<=10000/\∀x∈zbz i,-1000<sxI x/\sxI x<1000000
theorem KindAt.dict{ad:Ad}{H:Hp}{a d:Addr}{kd:zln}{kvs:List (Key×V)}{o:HO}(h:KindAt ad H a kd)(hd:H d=some (.dK kvs)):KindAt ad (upd H d o) a kd:=by
 obtain⟨dx,lo,c,ors,h1,h2,h3,h4⟩:=h
 have n:∀{b:Addr}{u:HO},H b=some u->(∀kvs,u≠.dK kvs)->(upd H d o) b=some u:=λ{b u} e z=>by
  rw[zah (λy=>by subst y;rw[hd]at e;cases e;exact z _ rfl)];exact e
 exact⟨dx,lo,c,ors,n h1 (λ_ z=>nomatch z),n h2 (λ_ z=>nomatch z),Paired.mapP h3 λ_ _ q=>n q (λ_ z=>nomatch z),n h4 (λ_ z=>nomatch z)⟩
theorem KnownAt.put{ad:Ad}{H:Hp}{d a:Addr}{known:Known}{x:Bytes}{q:zln}(h:KnownAt ad H d known)(ha:KindAt ad H a q)(hx:(known.find? λp=>p.1 == x)=none) :
  ∃kvs,H d=some (.dK kvs)/\kvs.length<=known.length/\KnownAt ad (upd H d (.dK (zh3 kvs (.inr (S x)) (.ref a)))) d (known++[(x,q)]):=by
 obtain⟨kvs,h1,h2,h3⟩:=h
 have hnone:zez kvs (.inr (S x))=none:=by
  have:=h3 x
  rw[hx]at this
  exact this
 refine⟨kvs,h1,h2,_,zad,?_,λy=>?_⟩
 ·rw[zjd _ hnone,qee,qee]
  exact qhd h2 1
 ·rw[zg6,List.find?_append]
  by_cases hy:y=x
  ·subst hy
   rw[hx,if_pos rfl]
   have e:([(y,q)]:Known).find? (λp=>p.1 == y)=some (y,q):=by simp
   rw[Option.none_or,e]
   exact⟨a,rfl,ha.dict h1⟩
  ·rw[if_neg (λz=>hy (zqc (Sum.inr.inj z)))]
   have e:([(x,q)]:Known).find? (λp=>p.1 == y)=none:=by
    have:¬x=y:=λz=>hy z.symm
    simp[this]
   rw[e,Option.or_none]
   have:=h3 y
   cases e:known.find? λp=>p.1 == y with
   |none=>rw[e]at this;exact this
   |some j=>
    rw[e]at this
    obtain⟨b,b1,b2⟩:=this
    exact⟨b,b1,b2.dict h1⟩
theorem KnownAt.same{ad:Ad}{H H':Hp}(s:Same H H'){d:Addr}{known:Known}(h:KnownAt ad H d known):KnownAt ad H' d known:=h.sameT s.t
theorem zv9{H0 H:Hp}{p:Addr}(s:SameT H0 H)(h:H0 p=none)(o:HO):SameT H0 (upd H p o):=λb u q n=>by rw[zah (zai q h)];exact s b u q n
theorem TOk.dict{ad:Ad}{H:Hp}{d:Addr}{kvs kvs':List (Key×V)}(t:TOk ad H)(hd:H d=some (.dK kvs)):TOk ad (upd H d (.dK kvs')):=by
 obtain⟨ps,h1,h2,h3⟩:=t
 have n:∀{b:Addr}{u:HO},H b=some u->(∀kvs,u≠.dK kvs)->(upd H d (.dK kvs')) b=some u:=λ{b u} e z=>by
  rw[zah (λy=>by subst y;rw[hd]at e;cases e;exact z _ rfl)];exact e
 refine⟨ps,n h1 (λ_ z=>nomatch z),h2,?_⟩
 rcases h3 with h3|⟨c',e,h3⟩
 ·exact .inl h3
 ·exact .inr ⟨c',e,n h3 (λ_ z=>nomatch z)⟩
def qcn(K:qed)(ad:Ad):Sp:=λvs H Q E=>∃(b:Addr)(is:List Addr)(l:List zbk),vs=[.ref b]/\H b=some (.lst (is.map V.ref))/\Paired (λa i=>ItemAt ad H a i) is l/\zb8 0 0 l=none/\zcd [] l=none/\(∀i∈l,Fine i)/\TOk ad H ∧
 match zdo 0 [] 0 l with
 |.inl (v,k)=>zaw K ad.R E v k
 |.inr known=>∀(b':Addr)(as:List Addr)(H':Hp),SameT H H'->TOk ad H'->H' b'=some (.lst (as.map V.ref))->Paired (λa (q:Bytes×zln)=>KindAt ad H' a q.2) as known->Q (.ref b') H'
theorem zwm{α β:Type}{R:α->β->Prop}:∀{l:List α}{m:List β}{a:α}{b:β},Paired R l m->R a b->Paired R (l++[a]) (m++[b])
 |_,_,_,_,.nil,h=>.cons h .nil
 |_,_,_,_,.cons a t,h=>.cons a (zwm t h)
section
variable{P:Program}{w:World}{K:qed}{mg:Str->Option Value}{base:Heap}{ad:Ad}
theorem qah(T:Txt K mg ad)(hK:K.In base)(hB:base.BuiltinsAt mg ad.pNP):Ok P w K mg base 9 "kinds_of" ["sheet"] (qcn K ad):=by
 have O1:=zxe (P:=P) (w:=w) (base:=base) T
 have O2:=qdi (P:=P) (w:=w) (base:=base) T
 have O3:=ok_koe (P:=P) (w:=w) T hK hB
 refine T.f_kinds_of.ok T.M c_kinds_of (λvs H Q E h=>?_) (λf cdv A outer s0 H vs Q E hr h=>?_)
 ·obtain⟨b,is,l,rfl,_⟩:=h
  rfl
 ·obtain⟨b,is,l,rfl,hb,hit,hcount,hright,hfine,ht,q⟩:=h
  have h1:Room 2 _:=hr.mono (by decide:2<=8)
  have hu:=zpk hr
  refine⟨_,zac (zap (i:=1) c_kinds_of.nd rfl (Or.inr rfl) zje)
   (zac (zap (i:=2) c_kinds_of.nd rfl (Or.inl rfl) zan)
   (zac (zew zbl rfl (znh rfl T.z_enumerate (zaa (pv 0) zae)) (ziz K 3 4 rfl c_kinds_of.nd rfl rfl rfl rfl)
    (zaf (za9 (zas zed (zar (pv 4) rfl) zam (zaz _))
     (zac (zkc hu (pv 1) (zar (pv 4) rfl) (cC O1 h1 zab (zaa (zbx zae) (zaa (cN O2 h1 zab (zaa (pv 2) zae)) (zaa zan zae)))) (by rfl))
      (zaf (zap (i:=2) c_kinds_of.nd rfl (Or.inl rfl) (zbc zb7 (pv 2) zan))))
     (zaf (zkc hu (pv 1) (zar (pv 4) rfl) (cN O3 hr zab (zaa (pv 3) (zaa (pv 4) (zaa (pv 1) zae)))) (by rfl))))))
   (zaf (zaq (zlt (own:=[("item",4)]) rfl c_kinds_of.nd (zb2 (pv 0)) (zbr (by rfl)) (λ_ _ _ _ _=>zbj (i:=4) c_kinds_of.nd rfl (Or.inl rfl)) (λ_ _ _ _ _=>zco) (λ_ _ _ _ _=>zfd (by exact hu) (pv 1) (zwt K (pv 4) rfl) (λ_ _=>rfl))))))),?_⟩
  have lis:is.length=l.length:=Paired.length hit
  have hp6:=(zep l 0 0 hcount).1
  have hl64:l.length<=64:=by
   rcases (zep l 0 0 hcount).2 with z|z
   ·rw[z];decide
   ·lia
  refine λdk nk=>⟨_,rfl,b,_,rfl,SqL.of (zaj nk _ _ _ hb),zjk (xs:=is.map V.ref) (λj σ H'=>∃(v3 v4:Option V)(known:Known)(u:Nat),σ=[some (.ref b),some (.ref dk),some (.int u),v3,v4]/\SameT H H'/\TOk ad H'/\KnownAt ad H' dk known/\KO (l.take j) known/\zlq (l.take j) ∧
   zb8 j u (l.drop j)=none/\zcd (l.take j) (l.drop j)=none/\zdo j known u (l.drop j)=zdo 0 [] 0 l) ?_ ?_ ?_ ?_⟩
  ·exact⟨none,none,[],0,rfl,(zaj nk _).t,ht.same (zaj nk _),⟨[],zad,qek _,λx=>rfl⟩,.nil,qij,hcount,hright,rfl⟩
  ·rintro j σ H' _ ⟨v3,v4,known,u,_,sT,_⟩
   exact SqL.of (sT.lst hb)
  ·rintro j x T' σ H' hx nT ⟨v3,v4,known,u,rfl,sT,tT,kn,ko,hd,hc,hrt,hk⟩
   rw[qeh]at hx
   obtain⟨a,ha,rfl⟩:=qei.mp hx
   obtain⟨i,hi,ia⟩:=qc3 hit ha
   obtain⟨hj,hj2⟩:=qef.mp hi
   have hdrop:l.drop j=i::l.drop (j+1):=by rw[qfb hj,hj2]
   have htake:l.take (j+1)=l.take j++[i]:=by rw[qfn (l:=l) (i:=j),hi];rfl
   rw[hdrop]at hc hrt hk
   obtain⟨c1,c2,c3,c4⟩:=zk2 hc
   have hri:rightItem (l.take j) i=true:=by
    rw[zcd]at hrt
    cases e:rightItem (l.take j) i with
    |true=>rfl
    |false=>rw[e]at hrt;simp at hrt
   rw[zcd,if_pos hri]at hrt
   rw[zdo]at hk
   have hd2:=zwd hd hri
   have knew:=zxw ko hd2
   have klen:known.length<=64:=by rw[<-ko.len,qe2];lia
   have sN:=zaj (o:=HO.tup [V.int (j:Nat),V.ref a]) nT
   have ia2:=(ia.sameT sT).same sN
   have kn2:=kn.same sN
   have tT2:=tT.same sN
   have sT2:=sT.trans sN.t
   obtain⟨idx,lp,ls,ts,i1,i2,i3,i4⟩:=id ia2
   have fin:∀(q:zln)(H3:Hp)(a2:Addr)(v3 v4:Option V),zdm known u i=.inr q->SameT H H3->TOk ad H3->KnownAt ad H3 dk known->KindAt ad H3 a2 q->∃kvs,H3 dk=some (.dK kvs)/\kvs.length<sizeLine ∧
     (∃(v3' v4':Option V)(known':Known)(u':Nat),[some (V.ref b),some (V.ref dk),some (V.int (nu u i:Nat)),v3,v4]=[some (.ref b),some (.ref dk),some (.int u'),v3',v4']/\SameT H (upd H3 dk (.dK (zh3 kvs (.inr (S i.name)) (.ref a2))))/\TOk ad (upd H3 dk (.dK (zh3 kvs (.inr (S i.name)) (.ref a2))))/\KnownAt ad (upd H3 dk (.dK (zh3 kvs (.inr (S i.name)) (.ref a2)))) dk known'/\KO (l.take (j+1)) known'/\zlq (l.take (j+1)) ∧
      zb8 (j+1) u' (l.drop (j+1))=none/\zcd (l.take (j+1)) (l.drop (j+1))=none/\zdo (j+1) known' u' (l.drop (j+1))=zdo 0 [] 0 l):=by
    intro q H3 a2 v3 v4 hq s3 t3 k3 ka
    obtain⟨kvs,g1,g2,g3⟩:=k3.put ka knew
    obtain⟨w1,w2⟩:=zmu ko.all c3 hq
    rw[hq]at hk
    refine⟨kvs,g1,zg4 (by lia),v3,v4,known++[(i.name,q)],nu u i,rfl,zv9 s3 nk _,t3.dict g1,g3,?_,?_,c4,?_,hk⟩
    ·rw[htake];exact ko.snoc w1 w2
    ·rw[htake];exact hd2
    ·rw[htake];exact hrt
   refine⟨T',_,rfl,.inl (.inl zad),rfl,_,_,rfl,_,_,rfl,rfl,?_⟩
   refine⟨_,rfl,a,ad.Item,idx,_,_,rfl,i1,T.l_Item,T.n_Item_word,rfl,rfl,_,rfl,?_⟩
   cases hu:zd3 i with
   |true=>
    have ew:ze2 i=("unit":Str):=by cases i <;> first|rfl|cases hu
    have en:nu u i=u+1:=by unfold nu;rw[hu];rfl
    have eo:zdm known u i=.inr ⟨0,0,[],ofMark u⟩:=by unfold zdm;rw[if_pos hu]
    rw[ew]
    refine zb3 (λ_=>?_) (λh=>absurd (decide_eq_true rfl) h)
    refine⟨(by show 0<=sizeLine;decide),λl1 n1=>?_⟩
    have s1:=zaj (o:=HO.lst []) n1
    refine⟨_,rfl,u,rfl,by lia,λr1 H2 n2 s2 e2=>?_⟩
    rw[zrk (by lia)]at e2
    intro x dx nx ndx hne
    refine⟨x,dx,l1,r1,0,rfl,zad,λH3 e3 f3=>⟨rfl,?_⟩⟩
    have s3:Same H2 H3:=λz v h=>f3 _ _ (by rw[zah (zai h nx),zah (zai h ndx)];exact h) (zai h nx)
    have S3:=s1.trans (s2.trans s3)
    have ka:KindAt ad H3 x ⟨0,0,[],ofMark u⟩:=⟨dx,l1,r1,[],e3,s3 _ _ (s2 _ _ zad),Paired.nil,s3 _ _ e2⟩
    obtain⟨kvs,g1,g2,g3⟩:=fin _ H3 x (some (.int (j:Nat))) (some (.ref a)) eo (sT2.trans S3.t) (tT2.same S3) (kn2.same S3) ka
    refine⟨_,rfl,_,rfl,a,ad.Item,idx,_,_,rfl,S3 _ _ i1,T.l_Item,T.n_Item_name,rfl,dk,_,rfl,DPut.k (k:=Sum.inr (S i.name)) g1 g2,?_⟩
    rw[en]at g3
    exact⟨_,rfl,_,_,rfl,rfl,g3⟩
   |false=>
    have ew:decide (V.str (ze2 i)=V.str ("unit":Str))=false:=by cases i <;> first|(cases hu;done)|exact decide_eq_false (by simp only[ze2];decide +kernel)
    have en:nu u i=u:=by unfold nu;rw[hu];rfl
    have eo:zdm known u i=zhp known (params i) (zbz i):=by unfold zdm;rw[if_neg (by rw[hu];decide)]
    rw[ew]
    refine zb3 (λh=>by cases h) (λ_=>?_)
    have fi:=hfine i (qe7 hi)
    refine⟨_,rfl,_,rfl,_,rfl,j,a,dk,i,known,rfl,ia2,kn2,ko.all,ko.le (λi' hi'=>hp6 i' (qgc hi')),c3,zqs hd hri,zwc hd ko hri hu,fi.1,fi.2,tT2,?_⟩
    rw[eo]at hk fin
    cases e:zhp known (params i) (zbz i) with
    |inl v=>
     rw[e]at hk
     rw[<-hk]at q
     exact q
    |inr qk=>
     intro a2 H3 s3 t3 k3
     obtain⟨kvs,g1,g2,g3⟩:=fin qk H3 a2 (some (.int (j:Nat))) (some (.ref a)) e (sT2.trans s3) t3 (kn2.sameT s3) k3
     refine⟨_,rfl,_,rfl,a,ad.Item,idx,_,_,rfl,s3 _ _ i1 (λ_ z=>nomatch z),T.l_Item,T.n_Item_name,rfl,dk,_,rfl,DPut.k (k:=Sum.inr (S i.name)) g1 g2,?_⟩
     rw[en]at g3
     exact g3
  ·rintro σ H' ⟨v3,v4,known,u,rfl,sT,tT,kn,ko,hd,_,_,hk⟩
   rw[qec,lis,qf0]at ko hd
   rw[qec,lis,qgl,zdo]at hk
   rw[<-hk]at q
   have knd:(known.map (·.1)).Nodup:=by rw[ko.names];exact hd
   have klen:=ko.len
   refine⟨_,rfl,b,rfl,⟨_,SqL.of (sT.lst hb)⟩,λD hD=>?_⟩
   refine zfk (xs:=is.map V.ref) (λj H6=>∃as,Same H' H6/\H6 D=some (.lst (as.map V.ref))/\Paired (λa (q:Bytes×zln)=>KindAt ad H' a q.2) as (known.take j)) ⟨[],zaj hD _,by rw[zad];rfl,Paired.nil⟩ (λj H6 _ ⟨as,s6,_⟩=>SqL.of (s6 _ _ (sT.lst hb))) (λj x H6 hx ⟨as,s6,e6,P6⟩=>?_) λH6 ⟨as,s6,e6,P6⟩=>?_
   ·rw[qeh]at hx
    obtain⟨a,ha,rfl⟩:=qei.mp hx
    obtain⟨i,hi,ia⟩:=qc3 hit ha
    obtain⟨hj,hj2⟩:=qef.mp hi
    have hjk:j<known.length:=by lia
    have hkj:known[j]?=some known[j]:=qe3 hjk
    have hnm:known[j].1=i.name:=by
     have:=congrArg (λz=>z[j]?) ko.names
     simp only[qeh,hkj,hi,qez]at this
     exact qen.inj this
    have hf:=qd0 knd hkj
    rw[hnm]at hf
    obtain⟨kvs,a2,h1,h2,h3⟩:=kn.get hf
    obtain⟨idx,lp,ls,ts,i1,i2,i3,i4⟩:=(ia.sameT sT).same s6
    refine⟨rfl,_,rfl,_,rfl,a,ad.Item,idx,_,_,rfl,i1,T.l_Item,T.n_Item_name,rfl,dk,_,rfl,(by rw[<-h2];exact DGet.k (k:=Sum.inr (S i.name)) (s6 _ _ h1)),_,e6,?_,as++[a2],zay s6 hD _,by rw[zad,qej];rfl,?_⟩
    ·have:=Paired.length P6
     rw[qe2]at this
     rw[qec];exact zg4 (by lia)
    ·rw[qfn (l:=known) (i:=j),hkj,qf6]
     exact zwm P6 h3
   ·rw[qec,lis,klen,qf0]at P6
    exact q D as H6 (sT.trans s6.t) (tT.same s6) e6 (Paired.mapP P6 λ_ _ h=>h.same s6)
end
open Kp169 (Bytes Known rightItem)
def BeforeAt(ad:Ad)(H:Hp)(d:Addr)(before:List zbk):Prop:=∃kvs:List (Key×V),H d=some (.dK kvs)/\kvs.length<=before.length/\∀x:Bytes,match before.find? λi=>i.name == x with
 |some i=>∃a,zez kvs (.inr (S x))=some (.ref a)/\ItemAt ad H a i
 |none=>zez kvs (.inr (S x))=none
theorem BeforeAt.same{ad:Ad}{H H':Hp}(s:Same H H'){d:Addr}{before:List zbk}(h:BeforeAt ad H d before):BeforeAt ad H' d before:=by
 obtain⟨kvs,h1,h2,h3⟩:=h
 refine⟨kvs,s _ _ h1,h2,λx=>?_⟩
 have:=h3 x
 cases e:before.find? λi=>i.name == x with
 |none=>rw[e]at this;exact this
 |some q=>
  rw[e]at this
  obtain⟨a,a1,a2⟩:=this
  exact⟨a,a1,a2.same s⟩
theorem ItemAt.dict{ad:Ad}{H:Hp}{a d:Addr}{i:zbk}{kvs:List (Key×V)}{o:HO}(h:ItemAt ad H a i)(hd:H d=some (.dK kvs)):ItemAt ad (upd H d o) a i:=by
 obtain⟨dx,lp,ls,ts,h1,h2,h3,h4⟩:=h
 have n:∀{b:Addr}{u:HO},H b=some u->(∀kvs,u≠.dK kvs)->(upd H d o) b=some u:=λ{b u} e z=>by
  rw[zah (λy=>by subst y;rw[hd]at e;cases e;exact z _ rfl)];exact e
 exact⟨dx,lp,ls,ts,n h1 (λ_ z=>nomatch z),n h2 (λ_ z=>nomatch z),n h3 (λ_ z=>nomatch z),Paired.mapP h4 λ_ _ q=>n q (λ_ z=>nomatch z)⟩
theorem BeforeAt.put{ad:Ad}{H:Hp}{d a:Addr}{before:List zbk}{i:zbk}(h:BeforeAt ad H d before)(ha:ItemAt ad H a i)(hx:(before.find? λp=>p.name == i.name)=none) :
  ∃kvs,H d=some (.dK kvs)/\kvs.length<=before.length/\BeforeAt ad (upd H d (.dK (zh3 kvs (.inr (S i.name)) (.ref a)))) d (before++[i]):=by
 obtain⟨kvs,h1,h2,h3⟩:=h
 have hnone:zez kvs (.inr (S i.name))=none:=by
  have:=h3 i.name
  rw[hx]at this
  exact this
 refine⟨kvs,h1,h2,_,zad,?_,λy=>?_⟩
 ·rw[zjd _ hnone,qee,qee]
  exact qhd h2 1
 ·rw[zg6,List.find?_append]
  by_cases hy:y=i.name
  ·subst hy
   rw[hx,if_pos rfl]
   have e:([i]:List zbk).find? (λp=>p.name == i.name)=some i:=by simp
   rw[Option.none_or,e]
   exact⟨a,rfl,ha.dict h1⟩
  ·rw[if_neg (λz=>hy (zqc (Sum.inr.inj z)))]
   have e:([i]:List zbk).find? (λp=>p.name == y)=none:=by
    have:¬i.name=y:=λz=>hy z.symm
    simp[this]
   rw[e,Option.or_none]
   have:=h3 y
   cases e:before.find? λp=>p.name == y with
   |none=>rw[e]at this;exact this
   |some j=>
    rw[e]at this
    obtain⟨b,b1,b2⟩:=this
    exact⟨b,b1,b2.dict h1⟩
theorem znz(before:List zbk)(x:Bytes):(before.find? λi=>i.name == x).isSome=(before.map Kp169.Item.name).contains x:=by
 rw[qfy,List.find?_isSome]
 simp only[beq_iff_eq,List.contains_iff_mem,qe1]
theorem BeforeAt.has{ad:Ad}{H:Hp}{d:Addr}{before:List zbk}(h:BeforeAt ad H d before)(x:Bytes):∃o,DGet H d (.str (S x)) o/\o.isSome=(before.map Kp169.Item.name).contains x:=by
 obtain⟨kvs,h1,_,h3⟩:=h
 refine⟨_,DGet.k (k:=Sum.inr (S x)) h1,?_⟩
 rw[<-znz]
 have:=h3 x
 cases e:before.find? λi=>i.name == x with
 |none=>rw[e]at this;rw[this];rfl
 |some i=>
  rw[e]at this
  obtain⟨a,a1,_⟩:=this
  rw[a1];rfl
theorem BeforeAt.get{ad:Ad}{H:Hp}{d:Addr}{before:List zbk}(h:BeforeAt ad H d before){x:Bytes}{i:zbk}(e:(before.find? λi=>i.name == x)=some i):∃a,DGet H d (.str (S x)) (some (.ref a))/\ItemAt ad H a i:=by
 obtain⟨kvs,h1,_,h3⟩:=h
 have:=h3 x
 rw[e]at this
 obtain⟨a,a1,a2⟩:=this
 exact⟨a,by rw[<-a1];exact DGet.k (k:=Sum.inr (S x)) h1,a2⟩
def zzs(K:qed)(ad:Ad):Sp:=λvs H Q E=>∃(b:Addr)(is:List Addr)(l:List zbk),vs=[.ref b]/\H b=some (.lst (is.map V.ref))/\Paired (λa i=>ItemAt ad H a i) is l ∧
 match zb8 0 0 l with
 |some k=>zaw K ad.R E (-28) k
 |none=>∀H',Same H H'->Q .non H'
def spNew(ad:Ad):Sp:=λvs H Q _=>∃(a d:Addr)(i:zbk)(before:List zbk),vs=[.ref a,.ref d]/\ItemAt ad H a i/\BeforeAt ad H d before/\(params i).length<=100000/\∀H',Same H H'->Q (.bl (!(before.map Kp169.Item.name).contains i.name && zn7 (before.map Kp169.Item.name) [] (params i))) H'
section
variable{P:Program}{w:World}{K:qed}{mg:Str->Option Value}{base:Heap}{ad:Ad}
theorem zxc(T:Txt K mg ad):Ok P w K mg base 4 "check_counts" ["sheet"] (zzs K ad):=by
 have X1:=zf0 (P:=P) (w:=w) (base:=base) T
 obtain⟨t1,hM1⟩:=T.k_MOST_ITEMS
 obtain⟨t2,hM2⟩:=T.k_MOST_UNITS
 obtain⟨t3,hM3⟩:=T.k_MOST_PARAMETERS
 refine T.f_check_counts.ok T.M c_check_counts (λvs H Q E h=>?_) (λf cdv A outer s0 H vs Q E hr h=>?_)
 ·obtain⟨b,is,l,rfl,_⟩:=h
  rfl
 ·obtain⟨b,is,l,rfl,hb,hit,q⟩:=h
  have lis:is.length=l.length:=Paired.length hit
  refine⟨_,zac (zap (i:=1) c_check_counts.nd rfl (Or.inl rfl) zan)
   (zaf (zew zbl rfl (znh rfl T.z_enumerate (zaa (pv 0) zae)) (ziz K 2 3 rfl c_check_counts.nd rfl rfl rfl rfl)
    (zac (za9 (zas zed (zar (pv 3) rfl) zam (zaz _)) (zaf (zap (i:=1) c_check_counts.nd rfl (Or.inl rfl) (zbc zb7 (pv 1) zan))) zau)
    (zaf (za9 (PW.pt (zwh (zas op_ge (pv 2) (zav (v:=.int 64) rfl hM1 ⟨_,rfl⟩) (zaz _)) (zwh (zas zni (pv 1) (zav (v:=.int 8) rfl hM2 ⟨_,rfl⟩) (zaz _)) (zso (zas zni (za3 za7 rfl T.z_len (by decide +kernel) (zaa (zar (pv 3) rfl) zae)) (zav (v:=.int 6) rfl hM3 ⟨_,rfl⟩) (zaz _))))))
     (zaf (zng X1 hr zab (pv 2))) zau))))),?_⟩
  refine⟨_,rfl,b,_,rfl,SqL.of hb,zjk (xs:=is.map V.ref) (λj σ H'=>∃(v2 v3:Option V)(u:Nat),σ=[some (.ref b),some (.int u),v2,v3]/\Same H H'/\zb8 j u (l.drop j)=zb8 0 0 l) ?_ ?_ ?_ ?_⟩
  ·exact⟨none,none,0,rfl,Same.refl _,rfl⟩
  ·rintro j σ H' _ ⟨v2,v3,u,_,sT,_⟩
   exact SqL.of (sT _ _ hb)
  ·rintro j x T' σ H' hx nT ⟨v2,v3,u,rfl,sT,hc⟩
   rw[qeh]at hx
   obtain⟨a,ha,rfl⟩:=qei.mp hx
   obtain⟨i,hi,ia⟩:=qc3 hit ha
   obtain⟨hj,hj2⟩:=qef.mp hi
   have hdrop:l.drop j=i::l.drop (j+1):=by rw[qfb hj,hj2]
   rw[hdrop]at hc
   have sN:=zaj (o:=HO.tup [V.int (j:Nat),V.ref a]) nT
   have sT2:=sT.trans sN
   obtain⟨idx,lp,ls,ts,i1,i2,i3,i4⟩:=ia.same sT2
   refine⟨T',_,rfl,.inl (.inl zad),rfl,_,_,rfl,_,_,rfl,rfl,?_⟩
   refine⟨_,rfl,a,ad.Item,idx,_,_,rfl,i1,T.l_Item,T.n_Item_word,rfl,rfl,_,rfl,?_⟩
   cases hu:zd3 i with
   |true=>
    have ew:ze2 i=("unit":Str):=by cases i <;> first|rfl|cases hu
    have en:nu u i=u+1:=by unfold nu;rw[hu];rfl
    rw[ew]
    refine zb3 (λ_=>?_) (λh=>absurd (decide_eq_true rfl) h)
    refine⟨_,rfl,_,_,rfl,rfl,?_⟩
    rw[zb8]at hc
    refine⟨_,rfl,_,_,rfl,rfl,_,rfl,zb3 (λc1=>?_) (λc1=>?_)⟩
    ·have c1:(64:Int)<=(j:Nat):=of_decide_eq_true c1
     rw[if_pos (.inl (by lia))]at hc
     rw[<-hc]at q
     exact⟨_,rfl,j,rfl,q⟩
    have c1:¬(64:Int)<=(j:Nat):=of_decide_eq_false (qfd.mpr c1)
    refine⟨_,rfl,_,_,rfl,rfl,_,rfl,zb3 (λc2=>?_) (λc2=>?_)⟩
    ·have c2:(8:Int)<(u:Int)+1:=of_decide_eq_true c2
     rw[if_pos (.inr (.inl (by lia)))]at hc
     rw[<-hc]at q
     exact⟨_,rfl,j,rfl,q⟩
    have c2:¬(8:Int)<(u:Int)+1:=of_decide_eq_false (qfd.mpr c2)
    refine⟨_,rfl,a,ad.Item,idx,_,_,rfl,i1,T.l_Item,T.n_Item_parameters,rfl,lp,_,rfl,.inl (SqL.of i2),_,_,rfl,rfl,_,rfl,zb3 (λc3=>?_) (λc3=>?_)⟩
    ·have c3:(6:Int)<(((zby (params i)).length:Nat):Int):=of_decide_eq_true c3
     rw[qec]at c3
     rw[if_pos (.inr (.inr (by lia)))]at hc
     rw[<-hc]at q
     exact⟨_,rfl,j,rfl,q⟩
    have c3:¬(6:Int)<(((zby (params i)).length:Nat):Int):=of_decide_eq_false (qfd.mpr c3)
    rw[qec]at c3
    rw[if_neg (by lia)]at hc
    exact⟨_,_,nu u i,by rw[en];rfl,sT2,hc⟩
   |false=>
    have ew:decide (V.str (ze2 i)=V.str ("unit":Str))=false:=by cases i <;> first|(cases hu;done)|exact decide_eq_false (by simp only[ze2];decide +kernel)
    have en:nu u i=u:=by unfold nu;rw[hu];rfl
    rw[ew]
    refine zb3 (λh=>by cases h) (λ_=>?_)
    rw[zb8]at hc
    refine⟨_,rfl,_,_,rfl,rfl,_,rfl,zb3 (λc1=>?_) (λc1=>?_)⟩
    ·have c1:(64:Int)<=(j:Nat):=of_decide_eq_true c1
     rw[if_pos (.inl (by lia))]at hc
     rw[<-hc]at q
     exact⟨_,rfl,j,rfl,q⟩
    have c1:¬(64:Int)<=(j:Nat):=of_decide_eq_false (qfd.mpr c1)
    refine⟨_,rfl,_,_,rfl,rfl,_,rfl,zb3 (λc2=>?_) (λc2=>?_)⟩
    ·have c2:(8:Int)<(u:Int):=of_decide_eq_true c2
     rw[if_pos (.inr (.inl (by lia)))]at hc
     rw[<-hc]at q
     exact⟨_,rfl,j,rfl,q⟩
    have c2:¬(8:Int)<(u:Int):=of_decide_eq_false (qfd.mpr c2)
    refine⟨_,rfl,a,ad.Item,idx,_,_,rfl,i1,T.l_Item,T.n_Item_parameters,rfl,lp,_,rfl,.inl (SqL.of i2),_,_,rfl,rfl,_,rfl,zb3 (λc3=>?_) (λc3=>?_)⟩
    ·have c3:(6:Int)<(((zby (params i)).length:Nat):Int):=of_decide_eq_true c3
     rw[qec]at c3
     rw[if_pos (.inr (.inr (by lia)))]at hc
     rw[<-hc]at q
     exact⟨_,rfl,j,rfl,q⟩
    have c3:¬(6:Int)<(((zby (params i)).length:Nat):Int):=of_decide_eq_false (qfd.mpr c3)
    rw[qec]at c3
    rw[if_neg (by lia)]at hc
    exact⟨_,_,nu u i,by rw[en];rfl,sT2,hc⟩
  ·rintro σ H' ⟨v2,v3,u,rfl,sT,hc⟩
   rw[qec,lis,qgl,zb8]at hc
   rw[<-hc]at q
   exact q H' sT
end
theorem zhq(x:Bytes):∀ps:List Bytes,inV (.str (S x)) (zby ps)=ps.contains x
 |[]=>rfl
 |y::ps=>by
  have ih:=zhq x ps
  unfold inV at ih ⊢
  show ((S y == S x) || (zby ps).any λz=>eqV z (V.str (S x)))=_
  rw[ih,qfv]
  congr 1
  rw[qfy,beq_iff_eq,beq_iff_eq]
  exact⟨λh=>(zqc h).symm,λh=>by rw[h]⟩
theorem zrl(l:List Bytes):(zby l).all zly=true:=by rw[qih,qeo];intro x _;rfl
theorem zvm(i:zbk):decide (V.str (ze2 i)=V.str ("fn":Str))=isFn i:=by
 cases i with
 |unit x=>exact decide_eq_false (by simp only[ze2];decide +kernel)
 |let_ x e=>exact decide_eq_false (by simp only[ze2];decide +kernel)
 |fn x ps e=>exact decide_eq_true rfl
theorem ztd(a b:Nat):decide (V.int (a:Int)=V.int (b:Int))=(a == b):=by
 rw[qfy,decide_eq_true_eq,beq_iff_eq]
 exact⟨λh=>by have:=V.int.inj h;lia,λh=>by rw[h]⟩
def qcd(K:qed)(ad:Ad):Sp:=λvs H Q _=>∃(t a d:Addr)(x:Sx)(i:zbk)(before:List zbk),vs=[.ref t,.ref a,.ref d]/\SqT K H t (sxV x)/\ItemAt ad H a i/\BeforeAt ad H d before/\Q (.bl (zcr before (params i) x)) H
def qcp(ad:Ad):Sp:=λvs H Q _=>∃(a d:Addr)(i:zbk)(before:List zbk),vs=[.ref a,.ref d]/\ItemAt ad H a i/\BeforeAt ad H d before/\(params i).length<=100000/\(zbz i).length<=100000/\∀H',Same H H'->Q (.bl (ziy before i)) H'
def qcf(K:qed)(ad:Ad):Sp:=λvs H Q E=>∃(b:Addr)(is:List Addr)(l:List zbk),vs=[.ref b]/\H b=some (.lst (is.map V.ref))/\Paired (λa i=>ItemAt ad H a i) is l/\l.length<=100000/\(∀i∈l,(params i).length<=100000/\(zbz i).length<=100000) ∧
 match zcd [] l with
 |some k=>zaw K ad.R E (-22) k
 |none=>∀H',Same H H'->Q .non H'
section
variable{P:Program}{w:World}{K:qed}{mg:Str->Option Value}{base:Heap}{ad:Ad}
theorem ok_new(T:Txt K mg ad):Ok P w K mg base 1 "names_are_new" ["item","before"] (spNew ad):=by
 refine T.f_names_are_new.ok T.M c_names_are_new (λvs H Q E h=>?_) (λf cdv A outer s0 H vs Q E hr h=>?_)
 ·obtain⟨a,d,i,before,rfl,_⟩:=h
  rfl
 ·obtain⟨a,d,i,before,rfl,hi,hb,hl,q⟩:=h
  have hu:=zpk hr
  refine⟨_,zac (za9 (zsp (zmq hu (zar (pv 0) rfl) (pv 1))) (zaf (zaq zo3)) zau)
   (zac (zap (i:=2) c_names_are_new.nd rfl (Or.inl rfl) zje)
   (zac (zew zbl rfl (zb2 (zar (pv 0) rfl)) (zbj (i:=3) c_names_are_new.nd rfl (Or.inl rfl))
    (zac (za9 (PW.pt (zwh (zsp (zmq hu (pv 3) (pv 2))) (zso (zsp (zmq hu (pv 3) (pv 1)))))) (zaf (zaq zo3)) zau)
    (zaf (zkc hu (pv 2) (pv 3) zo3 (by rfl)))))
   (zaf (zaq zo3)))),?_⟩
  obtain⟨idx,lp,ls,ts,i1,i2,i3,i4⟩:=id hi
  generalize hps:params i=ps at *
  obtain⟨o,g1,g2⟩:=hb.has i.name
  refine⟨_,rfl,a,ad.Item,idx,_,_,rfl,i1,T.l_Item,T.n_Item_name,rfl,_,rfl,d,o,rfl,g1,_,rfl,?_⟩
  rw[g2]
  cases hc:(before.map Kp169.Item.name).contains i.name with
  |true=>
   rw[hc]at q
   exact q H (Same.refl _)
  |false=>
   rw[hc]at q
   replace q:∀H',Same H H'->Q (.bl (zn7 (before.map Kp169.Item.name) [] ps)) H':=q
   refine λsd nsd=>⟨_,rfl,a,ad.Item,idx,_,_,rfl,zaj nsd _ _ _ i1,T.l_Item,T.n_Item_parameters,rfl,lp,rfl,⟨_,SqL.of (zaj nsd _ _ _ i2)⟩,zf4 (xs:=zby ps) (λj σ H'=>∃(v3:Option V)(kvs:List (Key×V)),σ=[some (.ref a),some (.ref d),some (.ref sd),v3]/\Same H H'/\H' sd=some (.dK kvs)/\kvs.length<=j ∧
    (∀x:Bytes,(zez kvs (.inr (S x))).isSome=(ps.take j).contains x)/\zn7 (before.map Kp169.Item.name) (ps.take j) (ps.drop j)=zn7 (before.map Kp169.Item.name) [] ps) ?_ ?_ ?_ ?_⟩
   ·exact⟨none,[],rfl,zaj nsd _,zad,qek _,λx=>rfl,rfl⟩
   ·rintro j σ H' _ ⟨v3,kvs,_,s1,_⟩
    exact SqL.of (s1 _ _ i2)
   ·rintro j x σ H' hx ⟨v3,kvs,rfl,s1,e1,l1,c1,n1⟩
    rw[qeh]at hx
    obtain⟨y,hy,rfl⟩:=qei.mp hx
    obtain⟨hj,hj2⟩:=qef.mp hy
    have hdrop:ps.drop j=y::ps.drop (j+1):=by rw[qfb hj,hj2]
    have htake:ps.take (j+1)=ps.take j++[y]:=by rw[qfn (l:=ps) (i:=j),hy];rfl
    rw[hdrop,zn7]at n1
    obtain⟨o',b1,b2⟩:=(hb.same s1).has y
    refine⟨_,rfl,_,rfl,sd,_,rfl,DGet.k (k:=Sum.inr (S y)) e1,_,rfl,?_⟩
    rw[c1 y]
    cases hs:(ps.take j).contains y with
    |true=>
     rw[hs]at n1
     have n1:false=zn7 (before.map Kp169.Item.name) [] ps:=n1
     rw[<-n1]at q
     exact q H' s1
    |false=>
     refine⟨_,rfl,_,rfl,d,o',rfl,b1,_,rfl,?_⟩
     rw[b2]
     rw[hs]at n1
     cases hbc:(before.map Kp169.Item.name).contains y with
     |true=>
      rw[hbc]at n1
      have n1:false=zn7 (before.map Kp169.Item.name) [] ps:=n1
      rw[<-n1]at q
      exact q H' s1
     |false=>
      rw[hbc]at n1
      have n1:zn7 (before.map Kp169.Item.name) (ps.take j++[y]) (ps.drop (j+1))=zn7 (before.map Kp169.Item.name) [] ps:=n1
      refine⟨_,rfl,_,rfl,sd,_,rfl,DPut.k (k:=Sum.inr (S y)) e1 (zg4 (by lia)),?_⟩
      refine⟨_,_,rfl,zay s1 nsd _,zad,?_,λx=>?_,?_⟩
      ·have hnone:zez kvs (.inr (S y))=none:=by
        have:=c1 y
        rw[hs]at this
        exact Option.isSome_eq_false_iff.mp this |> Option.isNone_iff_eq_none.mp
       rw[zjd _ hnone,qee]
       exact qhd l1 1
      ·rw[zg6,htake]
       by_cases hxy:x=y
       ·subst hxy;rw[if_pos rfl];simp
       ·rw[if_neg (λz=>hxy (zqc (Sum.inr.inj z))),c1 x]
        simp[hxy]
      ·rw[htake];exact n1
   ·rintro σ H' ⟨v3,kvs,rfl,s1,e1,l1,c1,n1⟩
    rw[qec,qgl,zn7]at n1
    rw[<-n1]at q
    exact q H' s1
theorem zz9(T:Txt K mg ad):Ok P w K mg base 1 "step_is_right" ["step","item","before"] (qcd K ad):=by
 refine T.f_step_is_right.ok T.M c_step_is_right (λvs H Q E h=>?_) (λf cdv A outer s0 H vs Q E hr h=>?_)
 ·obtain⟨t,a,d,x,i,before,rfl,_⟩:=h
  rfl
 ·obtain⟨t,a,d,x,i,before,rfl,ht,hi,hb,q⟩:=h
  have hu:=zpk hr
  refine⟨_,zac (zap (i:=3) c_step_is_right.nd rfl (Or.inl rfl) (zdt zex (pv 0) zan (λ_ _=>rfl)))
   (zac (za9 (zas zed (zdt zex (pv 0) zan (λ_ _=>rfl)) zam (zaz _))
    (zaf (zaq (pe_or (zh4 zkh (pv 3) (zar (pv 1) rfl) rfl) (zo2 (zo4 (qbn (zmq hu (pv 3) (pv 2))) (zo2 (zh4 zo7 (zar (zfd hu (pv 2) (pv 3) (λ_ _=>rfl)) rfl) zam (zaz _)))))))) zau)
   (zac (za9 (zas zed (zdt zex (pv 0) zan (λ_ _=>rfl)) zam (zaz _))
    (zaf (zaq (zo4 (qbn (zmq hu (pv 3) (pv 2))) (zo4 (zh4 zed (zar (zfd hu (pv 2) (pv 3) (λ_ _=>rfl)) rfl) zam (zaz _))
     (zo2 (zh4 zed (za3 za7 rfl T.z_len (by decide +kernel) (zaa (zar (zfd hu (pv 2) (pv 3) (λ_ _=>rfl)) rfl) zae)) (zdt zex (pv 0) zan (λ_ _=>rfl)) (zaz _))))))) zau)
   (zaf (zaq zo3)))),?_⟩
  obtain⟨idx,lp,ls,ts,i1,i2,i3,i4⟩:=id hi
  refine⟨_,rfl,t,_,_,_,rfl,rfl,ht,rfl,?_⟩
  have other:sxW x≠("name":Str)->sxW x≠("call":Str)->zcr before (params i) x=true:=λh1 h2=>by
   cases x <;> first|rfl|exact absurd rfl h1|exact absurd rfl h2
  refine⟨_,rfl,t,_,_,_,rfl,rfl,ht,rfl,rfl,_,rfl,zb3 (λc1=>?_) (λc1=>?_)⟩
  ·have c1:sxW x=("name":Str):=V.str.inj (of_decide_eq_true c1)
   have ex:∃y,x=.name y:=by
    cases x with
    |name y=>exact⟨y,rfl⟩
    |_=>exact absurd c1 (by simp only[sxW];decide +kernel)
   obtain⟨y,rfl⟩:=ex
   refine⟨_,rfl,_,rfl,a,ad.Item,idx,_,_,rfl,i1,T.l_Item,T.n_Item_parameters,rfl,lp,_,rfl,.inl (SqL.of i2),rfl,zrl _,_,rfl,?_⟩
   show if inV (.str (S y)) (zby (params i))=true then _ else _
   rw[zhq]
   simp only[zcr]at q
   cases hc:(params i).contains y with
   |true=>rw[hc]at q;exact q
   |false=>
    rw[hc]at q
    obtain⟨o,g1,g2⟩:=hb.has y
    refine⟨_,rfl,_,rfl,d,o,rfl,g1,_,rfl,?_⟩
    rw[g2,<-znz]
    cases hf:before.find? λi=>i.name == y with
    |none=>rw[hf]at q;exact q
    |some i'=>
     rw[hf]at q
     obtain⟨a',b1,b2⟩:=hb.get hf
     obtain⟨idx',lp',ls',ts',j1,j2,j3,j4⟩:=b2
     refine⟨_,rfl,_,rfl,d,_,rfl,b1,a',ad.Item,idx',_,_,rfl,j1,T.l_Item,T.n_Item_word,rfl,rfl,?_⟩
     rw[zvm]
     exact q
  have c1:¬sxW x=("name":Str):=λz=>c1 (by rw[z];exact decide_eq_true rfl)
  refine⟨_,rfl,t,_,_,_,rfl,rfl,ht,rfl,rfl,_,rfl,zb3 (λc2=>?_) (λc2=>?_)⟩
  ·have c2:sxW x=("call":Str):=V.str.inj (of_decide_eq_true c2)
   have ex:∃y n,x=.call y n:=by
    cases x with
    |call y n=>exact⟨y,n,rfl⟩
    |_=>exact absurd c2 (by simp only[sxW];decide +kernel)
   obtain⟨y,n,rfl⟩:=ex
   obtain⟨o,g1,g2⟩:=hb.has y
   refine⟨_,rfl,_,rfl,d,o,rfl,g1,_,rfl,?_⟩
   rw[g2,<-znz]
   simp only[zcr]at q
   cases hf:before.find? λi=>i.name == y with
   |none=>rw[hf]at q;exact q
   |some i'=>
    rw[hf]at q
    dsimp only at q
    obtain⟨a',b1,b2⟩:=hb.get hf
    obtain⟨idx',lp',ls',ts',j1,j2,j3,j4⟩:=b2
    refine⟨_,rfl,_,rfl,d,_,rfl,b1,a',ad.Item,idx',_,_,rfl,j1,T.l_Item,T.n_Item_word,rfl,rfl,_,rfl,?_⟩
    rw[zvm]
    cases hw:isFn i' with
    |false=>rw[hw]at q;exact q
    |true=>
     rw[hw]at q
     refine⟨_,rfl,_,rfl,d,_,rfl,b1,a',ad.Item,idx',_,_,rfl,j1,T.l_Item,T.n_Item_parameters,rfl,lp',_,rfl,.inl (SqL.of j2),_,rfl,t,_,_,_,rfl,rfl,ht,rfl,rfl,?_⟩
     show Q (.bl (decide (V.int (((zby (params i')).length:Nat):Int)=V.int (n:Int)))) H
     rw[ztd,qec]
     exact q
  have c2:¬sxW x=("call":Str):=λz=>c2 (by rw[z];exact decide_eq_true rfl)
  rw[other c1 c2]at q
  exact q
theorem qaj(T:Txt K mg ad):Ok P w K mg base 2 "item_is_right" ["item","before"] (qcp ad):=by
 have O1:=ok_new (P:=P) (w:=w) (base:=base) T
 have O2:=zz9 (P:=P) (w:=w) (base:=base) T
 refine T.f_item_is_right.ok T.M c_item_is_right (λvs H Q E h=>?_) (λf cdv A outer s0 H vs Q E hr h=>?_)
 ·obtain⟨a,d,i,before,rfl,_⟩:=h
  rfl
 ·obtain⟨a,d,i,before,rfl,hi,hb,hl,hs,q⟩:=h
  refine⟨_,zaf (zaq (zo4 (cN O1 hr zab (zaa (pv 0) (zaa (pv 1) zae))) (zo2 (za3 (cr_all rfl) rfl T.z_all (by decide +kernel)
   (zaa (zlt (own:=[("step",2)]) rfl c_item_is_right.nd (zb2 (zar (pv 0) rfl)) (zbr (by rfl)) (λ_ _ _ _ _=>zbj (i:=2) c_item_is_right.nd rfl (Or.inl rfl)) (λ_ _ _ _ _=>zco) (λ_ _ _ _ _=>cN O2 hr th0 (zaa (pv 2) (zaa (pv 0) (zaa (pv 1) zae))))) zae))))),?_⟩
  refine⟨_,rfl,_,rfl,a,d,i,before,rfl,hi,hb,hl,λH1 s1=>⟨_,rfl,?_⟩⟩
  unfold ziy at q
  cases hn:(!(before.map Kp169.Item.name).contains i.name && zn7 (before.map Kp169.Item.name) [] (params i)) with
  |false=>rw[hn]at q;exact q H1 s1
  |true=>
   rw[hn]at q
   obtain⟨idx,lp,ls,ts,i1,i2,i3,i4⟩:=id (hi.same s1)
   have lts:ts.length=(zbz i).length:=Paired.length i4
   refine⟨_,rfl,a,ad.Item,idx,_,_,rfl,i1,T.l_Item,T.n_Item_steps,rfl,ls,rfl,⟨_,SqL.of i3⟩,λD hD=>?_⟩
   refine zfk (xs:=ts.map V.ref) (λj H6=>Same H1 H6/\H6 D=some (.lst ((((zbz i).take j).map (zcr before (params i))).map V.bl))) ⟨zaj hD _,by rw[zad];rfl⟩ (λj H6 _ ⟨s6,_⟩=>SqL.of (s6 _ _ i3)) (λj x H6 hx ⟨s6,e6⟩=>?_) λH6 ⟨s6,e6⟩=>?_
   ·rw[qeh]at hx
    obtain⟨t,ht,rfl⟩:=qei.mp hx
    obtain⟨sx,hsx,et⟩:=qc3 i4 ht
    refine⟨rfl,_,rfl,_,rfl,_,rfl,t,a,d,sx,i,before,rfl,.inl (.inl (s6 _ _ et)),hi.same (s1.trans s6),hb.same (s1.trans s6),_,e6,?_,zay s6 hD _,?_⟩
    ·rw[qec,qec,qe2];exact zg4 (by lia)
    ·rw[zad,qfn (l:=zbz i) (i:=j),hsx];simp
   ·rw[qec,lts,qf0]at e6
    refine⟨D,_,rfl,SqL.of e6,?_⟩
    rw[qih]
    exact q H6 (s1.trans s6)
theorem qab(T:Txt K mg ad):Ok P w K mg base 4 "check_right" ["sheet"] (qcf K ad):=by
 have X1:=zkk (P:=P) (w:=w) (base:=base) T
 have O1:=qaj (P:=P) (w:=w) (base:=base) T
 refine T.f_check_right.ok T.M c_check_right (λvs H Q E h=>?_) (λf cdv A outer s0 H vs Q E hr h=>?_)
 ·obtain⟨b,is,l,rfl,_⟩:=h
  rfl
 ·obtain⟨b,is,l,rfl,hb,hit,hl,hsz,q⟩:=h
  have hu:=zpk hr
  have h2:Room 2 _:=hr.mono (by decide:2<=3)
  have lis:is.length=l.length:=Paired.length hit
  refine⟨_,zac (zap (i:=1) c_check_right.nd rfl (Or.inl rfl) zje)
   (zaf (zew zbl rfl (znh rfl T.z_enumerate (zaa (pv 0) zae)) (ziz K 2 3 rfl c_check_right.nd rfl rfl rfl rfl)
    (zac (za9 (zmn (zce (cN O1 h2 zab (zaa (pv 3) (zaa (pv 1) zae))))) (zaf (zng X1 hr zab (pv 2))) zau)
    (zaf (zkc hu (pv 1) (zar (pv 3) rfl) (pv 3) (by rfl)))))),?_⟩
  refine λdk nk=>⟨_,rfl,b,_,rfl,SqL.of (zaj nk _ _ _ hb),zjk (xs:=is.map V.ref) (λj σ H'=>∃(v2 v3:Option V),σ=[some (.ref b),some (.ref dk),v2,v3]/\Same H H'/\BeforeAt ad H' dk (l.take j)/\zlq (l.take j)/\zcd (l.take j) (l.drop j)=zcd [] l) ?_ ?_ ?_ ?_⟩
  ·exact⟨none,none,rfl,zaj nk _,⟨[],zad,qek _,λx=>rfl⟩,qij,rfl⟩
  ·rintro j σ H' _ ⟨v2,v3,_,s1,_⟩
   exact SqL.of (s1 _ _ hb)
  ·rintro j x T' σ H' hx nT ⟨v2,v3,rfl,s1,bf,hd,hc⟩
   rw[qeh]at hx
   obtain⟨a,ha,rfl⟩:=qei.mp hx
   obtain⟨i,hi,ia⟩:=qc3 hit ha
   obtain⟨hj,hj2⟩:=qef.mp hi
   have hdrop:l.drop j=i::l.drop (j+1):=by rw[qfb hj,hj2]
   have htake:l.take (j+1)=l.take j++[i]:=by rw[qfn (l:=l) (i:=j),hi];rfl
   rw[hdrop,zcd,zdz hd]at hc
   have sN:=zaj (o:=HO.tup [V.int (j:Nat),V.ref a]) nT
   have s2:=s1.trans sN
   have im:=hsz i (qe7 hi)
   refine⟨T',_,rfl,.inl (.inl zad),rfl,_,_,rfl,_,_,rfl,rfl,?_⟩
   refine⟨_,rfl,_,rfl,a,dk,i,l.take j,rfl,ia.same s2,bf.same sN,im.1,im.2,λH3 s3=>⟨_,rfl,?_⟩⟩
   have ljt:(l.take j).length=j:=by rw[qe2];lia
   cases hp:ziy (l.take j) i with
   |false=>
    rw[hp,if_neg (by decide),ljt]at hc
    rw[<-hc]at q
    exact⟨_,rfl,j,rfl,q⟩
   |true=>
    rw[hp,if_pos rfl]at hc
    have hd2:=zgk hd hp
    have S3:=s2.trans s3
    obtain⟨kvs,g1,g2,g3⟩:=((bf.same sN).same s3).put (ia.same S3) (ztm hd2)
    obtain⟨idx,lp,ls,ts,i1,i2,i3,i4⟩:=id (ia.same S3)
    refine⟨_,rfl,_,rfl,_,rfl,a,ad.Item,idx,_,_,rfl,i1,T.l_Item,T.n_Item_name,rfl,dk,_,rfl,DPut.k (k:=Sum.inr (S i.name)) g1 (zg4 (by lia)),?_⟩
    refine⟨_,_,rfl,zay S3 nk _,?_,?_,?_⟩
    ·rw[htake];exact g3
    ·rw[htake];exact hd2
    ·rw[htake];exact hc
  ·rintro σ H' ⟨v2,v3,rfl,s1,bf,hd,hc⟩
   rw[qec,lis,qgl,zcd]at hc
   rw[<-hc]at q
   exact q H' s1
end
open Kp169 (Bytes)
def signsAll:List Nat:=(Str.ofString "abcdefghijklmnopqrstuvwxyz0123456789_(),;=+-*/^< \n.").cps.toList
theorem znd(c:Nat):signsAll.contains c=zlp c:=by
 by_cases h:c<128
 ·have:∀c<128,signsAll.contains c=zlp c:=by decide +kernel
  exact this c h
 ·have h1:zlp c=false:=by
   unfold zlp Kp169.inName Kp169.small Kp169.digit zb4
   rw[zzt]
   have e:∀n:Nat,n<128->(c == n)=false:=λn hn=>by simp;lia
   simp only[qfv,List.contains_nil,e _ (by decide:95<128),e _ (by decide:32<128),e _ (by decide:10<128),e _ (by decide:46<128),e _ (by decide:40<128),e _ (by decide:41<128),e _ (by decide:44<128),e _ (by decide:59<128),e _ (by decide:61<128),e _ (by decide:43<128),e _ (by decide:45<128),e _ (by decide:42<128),e _ (by decide:47<128),e _ (by decide:94<128),e _ (by decide:60<128),qit]
   simp;lia
  rw[h1]
  have h2:∀n∈signsAll,n<128:=by decide +kernel
  cases e:signsAll.contains c with
  |false=>rfl
  |true=>
   have:=h2 c (by simpa using e)
   lia
theorem zkm(i:Nat):∀(L:List Nat)(acc:List (Key×V)),zez (zd2 acc (L.map λ(c:Nat)=>((Sum.inl (c:Int):Key),V.str ⟨#[c]⟩))) (.inl (i:Int))=if L.contains i then some (.str ⟨#[i]⟩) else zez acc (.inl (i:Int))
 |[],acc=>by simp[zd2]
 |c::L,acc=>by
  show zez (zd2 (zh3 acc (.inl (c:Int)) (.str ⟨#[c]⟩)) (L.map _)) _=_
  rw[zkm i L,qfv,zg6]
  by_cases h:i=c
  ·subst h;simp
  ·have h1:(i == c)=false:=by simpa using h
   have h2:¬(Sum.inl (i:Int):Key)=.inl (c:Int):=λz=>h (by have:=Sum.inl.inj z;lia)
   rw[h1,qjn,if_neg h2]
end U
namespace L2
open PySem
theorem qdu{x:Str}{te:TE}{vs:List Nat}{σ:St}{H1:Hp}{D:Addr}{Qd:Hp->Prop}(f:Nat->V)(i:Nat)(hD:H1 D=none)(hz:x.cps.size<=1000000)(hw:∀x,zdc ((zdc σ vs).set i (some x)) vs=zdc σ vs)(ht:∀c H2 Q,Same H1 H2->Q (f c) H2->te ((zdc σ vs).set i (some (.str ⟨#[c]⟩))) H2 Q)(hq:∀H',Same H1 H'->H' D=some (.lst (x.cps.toList.map f))->Qd H') :
  ∃W:Nat->Nat->Hp->Prop,(∃m,W 0 m (upd H1 D (.lst [])))/\∀k m H,W k m H ->
   ((Its x).stop k H/\Qd H)\/((Its x).go k H/\∃Nx:Hp->Prop,(∀H',Nx H'->∃m',m'<m/\W (k+1) m' H')/\∀v H',(Its x).yld k H v H'->zi6 i v (zdc σ vs) H' λσ2 H2=>zdc σ2 vs=zdc σ vs/\tYes σ2 H2 λb H3=>
    if b=true then te σ2 H3 λy H4=>∃acc,H4 D=some (.lst acc)/\acc.length<sizeLine/\Nx (upd H4 D (.lst (acc++[y]))) else Nx H3):=by
 have hsz:x.cps.toList.length=x.cps.size:=by simp
 refine⟨λk m H=>m=x.cps.size - k/\k<=x.cps.size/\Same H1 H/\H D=some (.lst ((x.cps.toList.take k).map f)),⟨x.cps.size,by simp,qf4 _,zaj hD _,by rw[zad];rfl⟩,?_⟩
 rintro k m H ⟨rfl,hk,sm,hacc⟩
 by_cases hlt:k<x.cps.size
 ·refine .inr ⟨hlt,λH'=>Same H1 H'/\H' D=some (.lst ((x.cps.toList.take (k+1)).map f)),λH' p'=>⟨x.cps.size - (k+1),by lia,rfl,hlt,p'⟩,λv H' y=>?_⟩
  obtain⟨rfl,c,hc,rfl⟩:=y
  refine⟨hw _,?_⟩
  refine ht c _ _ sm ⟨_,hacc,?_,zay sm hD _,?_⟩
  ·rw[qec,qe2];exact zg4 (by lia)
  ·rw[zad,qfn,qh3,hc]
   simp
 ·have e:k=x.cps.size:=by lia
  subst e
  refine .inl ⟨qek _,hq H sm ?_⟩
  rw[hacc,<-hsz,qf0]
end L2
namespace U
open PySem L2 Mir
open Kp169 (Bytes)
abbrev one(c:Nat):Str:=⟨#[c]⟩
theorem zxz(l:List Nat):Str.join "" (l.map one)=S l:=by
 have h:=TL.tl_join "" (l.map one)
 have e:TL.joinL [] ((l.map one).map TL.tl)=l:=by
  rw[qh7]
  induction l with
  |nil=>rfl
  |cons c l ih=>
   cases l with
   |nil=>rfl
   |cons d l=>
    show [c]++([]++TL.joinL [] _)=_
    rw[qfp]
    exact congrArg (c::·) (ih (TL.tl_join "" _))
 have h2:(Str.join "" (l.map one)).cps.toList=l:=by
  have h3:TL.tl (Str.join "" (l.map one))=TL.joinL [] ((l.map one).map TL.tl):=h
  rw[e]at h3
  exact h3
 cases hj:Str.join "" (l.map one) with
 |mk a=>
  rw[hj]at h2
  show (⟨a⟩:Str)=⟨l.toArray⟩
  congr 1
  have:a.toList=l:=h2
  rw[<-this]
theorem zr9{α:Type}(f:Nat->α):∀L:List Nat,(L.map f).zip L=L.map λc=>(f c,c)
 |[]=>rfl
 |c::L=>by rw[qfh,qhr,zr9 f L];rfl
def spText(K:qed):Sp:=λvs H Q _=>∃(t:Addr)(b:Bytes),vs=[.ref t]/\SqL K H t ((zn8 b).map V.int)/\b.length<=100000/\∀H',Same H H'->Q (.str (S (b.map zcq))) H'
section
variable{P:Program}{w:World}{K:qed}{mg:Str->Option Value}{base:Heap}{ad:Ad}
theorem qc9(T:Txt K mg ad):Ok P w K mg base 1 "text_of" ["t"] (spText K):=by
 obtain⟨t1,hN⟩:=T.k_NAME_SIGNS
 obtain⟨t2,hS⟩:=T.k_SIGNS
 obtain⟨t3,hB⟩:=T.k_BLANKS
 obtain⟨t4,hP⟩:=T.k_POINT
 obtain⟨t5,hX⟩:=T.k_STRANGE
 refine T.f_text_of.ok T.M c_text_of (λvs H Q E h=>?_) (λf cdv A outer s0 H vs Q E hr h=>?_)
 ·obtain⟨t,b,rfl,_⟩:=h
  rfl
 ·obtain⟨t,b,rfl,ht,hb,q⟩:=h
  have hu:=zpk hr
  refine⟨_,zac (zap (i:=1) c_text_of.nd rfl (Or.inl rfl) (zbc zh7 (zbc zh7 (zbc zh7 (zav (v:=.str "abcdefghijklmnopqrstuvwxyz0123456789_") rfl hN ⟨_,rfl⟩) (zav (v:=.str "(),;=+-*/^<") rfl hS ⟨_,rfl⟩)) (zav (v:=.str " \n") rfl hB ⟨_,rfl⟩)) (zav (v:=.str ".") rfl hP ⟨_,rfl⟩)))
   (zac (zap (i:=2) c_text_of.nd rfl (Or.inr rfl) (zue rfl rfl T.z_zip rfl T.z_dict (zaa
     (zlt (own:=[("sign",3)]) rfl c_text_of.nd (pi_str (pv 1)) (zbr (by rfl)) (λ_ _ _ _ _=>zbj (i:=3) c_text_of.nd rfl (Or.inl rfl)) (λ_ _ _ _ _=>zco) (λ_ _ _ _ _=>za3 qa6 rfl T.z_ord (by decide +kernel) (zaa (pv 3) zae)))
     (zaa (pv 1) zae))))
   (zaf (zaq (qc6 zam
    (zlt (own:=[("byte",4)]) rfl c_text_of.nd (zb2 (pv 0)) (zbr (by rfl)) (λ_ _ _ _ _=>zbj (i:=4) c_text_of.nd rfl (Or.inl rfl)) (λ_ _ _ _ _=>zco) (λ_ _ _ _ _=>zz3 (by exact hu) (pv 2) (pv 4) (zav (v:=.str "?") rfl hX ⟨_,rfl⟩) ⟨rfl,rfl,rfl,rfl⟩)))))),?_⟩
  refine⟨_,_,rfl,rfl,(by decide +kernel),_,_,rfl,rfl,(by decide +kernel),_,_,rfl,rfl,(by decide +kernel),?_⟩
  have ex:((((Str.ofString "abcdefghijklmnopqrstuvwxyz0123456789_"++Str.ofString "(),;=+-*/^<")++Str.ofString " \n")++Str.ofString "."):Str).cps.toList=signsAll:=by decide +kernel
  have ea:((((Str.ofString "abcdefghijklmnopqrstuvwxyz0123456789_"++Str.ofString "(),;=+-*/^<")++Str.ofString " \n")++Str.ofString "."):Str).cps.all (·<128)=true:=by decide +kernel
  have es:((((Str.ofString "abcdefghijklmnopqrstuvwxyz0123456789_"++Str.ofString "(),;=+-*/^<")++Str.ofString " \n")++Str.ofString "."):Str).cps.size=signsAll.length:=by rw[<-ex];simp
  have e51:signsAll.length=51:=by decide +kernel
  generalize (((Str.ofString "abcdefghijklmnopqrstuvwxyz0123456789_"++Str.ofString "(),;=+-*/^<")++Str.ofString " \n")++Str.ofString ".")=x at *
  refine⟨_,rfl,x,rfl,λD hD=>?_⟩
  refine qdu (λc=>.int (c:Nat)) 3 hD (by lia) (λ_=>rfl) (λc H2 Q' s2 h=>⟨_,rfl,one c,rfl,rfl,h⟩) λH1 s1 e1=>?_
  refine⟨_,rfl,D,x,x.cps.toList.map (λ(c:Nat)=>(Sum.inl (c:Int):Key)),rfl,SqL.of (by rw[qh7];exact e1),ea,by simp,by rw[ex];decide +kernel,λp np=>?_⟩
  rw[zr9,qh7,ex]
  have s3:=zaj (o:=HO.dK (zd2 [] (signsAll.map (zkv∘λ(c:Nat)=>((Sum.inl (c:Int):Key),c))))) np
  have S3:=s1.trans s3
  refine⟨⟨_,rfl⟩,_,rfl,t,rfl,⟨_,S3.seq ht⟩,λD2 hD2=>?_⟩
  refine zfk (xs:=(zn8 b).map V.int) (λj H6=>Same (upd H1 p (HO.dK (zd2 [] (signsAll.map (zkv∘λ(c:Nat)=>((Sum.inl (c:Int):Key),c)))))) H6/\H6 D2=some (.lst ((((b.map zcq).take j).map one).map V.str))) ⟨zaj hD2 _,by rw[zad];rfl⟩ (λj H6 _ ⟨s6,_⟩=>s6.seq (S3.seq ht)) (λj v H6 hx ⟨s6,e6⟩=>?_) λH6 ⟨s6,e6⟩=>?_
  ·rw[qeh,qeh]at hx
   obtain⟨i,hi,rfl⟩:=qei.mp hx
   obtain⟨c,hc,rfl⟩:=qei.mp hi
   have hd:=s6 _ _ (zad (H:=H1) (a:=p) (o:=HO.dK (zd2 [] (signsAll.map (zkv∘λ(c:Nat)=>((Sum.inl (c:Int):Key),c))))))
   refine⟨rfl,_,rfl,p,rfl,.inl ⟨_,.inl hd⟩,_,rfl,_,DGet.k (k:=Sum.inl (c:Int)) hd,_,e6,?_,zay s6 hD2 _,?_⟩
   ·rw[qec,qec,qe2,qec];exact zg4 (by lia)
   ·have hv:=zkm c signsAll []
    rw[zad,qfn (l:=b.map zcq) (i:=j),qeh,hc]
    have hv2:zez (zd2 [] (signsAll.map (zkv∘λ(c:Nat)=>((Sum.inl (c:Int):Key),c)))) (.inl (c:Int))=if signsAll.contains c then some (.str ⟨#[c]⟩) else none:=hv
    rw[hv2,znd]
    have:(if zlp c=true then some (V.str ⟨#[c]⟩) else none).getD (V.str "?")=V.str (one (zcq c)):=by
     unfold zcq
     split
     ·rfl
     ·exact congrArg V.str (by decide +kernel)
    rw[this]
    simp
  ·rw[qec,qec,<-qec (f:=zcq),qf0]at e6
   refine⟨_,D2,(b.map zcq).map one,rfl,rfl,.inl (SqL.of e6),?_,?_⟩
   ·have:((b.map zcq).map one).map (·.length)=(b.map zcq).map λ_=>1:=by rw[qh7];rfl
    rw[this]
    have h0:(("":Str)).length=0:=rfl
    rw[h0]
    have hs:∀l:List Nat,(l.map λ_=>1).sum=l.length:=λl=>by
     induction l with
     |nil=>rfl
     |cons a l ih=>rw[qfh,qib,ih];simp;lia
    rw[hs]
    simp;lia
   ·rw[TL.join_eq,zxz]
    exact q H6 (S3.trans s6)
end
open Kp169 (Bytes Tok)
theorem zon{z:Str}{p:Nat->Bool}(h1:∀c<128,decide (c∈z.cps.toList)=p c)(h2:∀n∈z.cps.toList,n<128)(h3:∀c,128<=c->p c=false)(c:Nat):decide (c∈z.cps.toList)=p c:=by
 by_cases h:c<128
 ·exact h1 c h
 ·rw[h3 c (by lia)]
  exact decide_eq_false λz=>h (h2 c z)
theorem zqq(c:Nat):decide (c∈(Str.ofString "abcdefghijklmnopqrstuvwxyz").cps.toList)=Kp169.small c:=zon (by decide +kernel) (by decide +kernel) (λc h=>by unfold Kp169.small;simp;lia) c
theorem zh2(c:Nat):decide (c∈(Str.ofString "0123456789").cps.toList)=Kp169.digit c:=zon (by decide +kernel) (by decide +kernel) (λc h=>by unfold Kp169.digit;simp;lia) c
theorem zv6(c:Nat):decide (c∈(Str.ofString "abcdefghijklmnopqrstuvwxyz0123456789_").cps.toList)=Kp169.inName c:=zon (by decide +kernel) (by decide +kernel) (λc h=>by unfold Kp169.inName Kp169.small Kp169.digit;simp;lia) c
theorem zmd(c:Nat):decide (c∈(Str.ofString " \n").cps.toList)=zb4 c:=zon (by decide +kernel) (by decide +kernel) (λc h=>by unfold zb4;simp;lia) c
theorem zv5(c:Nat):decide (c∈(Str.ofString "(),;=+-*/^<").cps.toList)=Kp169.signs.contains c:=zon (by decide +kernel) (by decide +kernel) (λc h=>by
 cases e:Kp169.signs.contains c with
 |false=>rfl
 |true=>
  have h2:∀n∈Kp169.signs,n<128:=by decide +kernel
  have:=h2 c (by simpa using e)
  lia) c
theorem zjl(p:Nat->Bool):∀l:List Nat,l.drop (l.takeWhile p).length=l.dropWhile p
 |[]=>rfl
 |x::l=>by
  rw[qfm,qhl]
  split
  ·simp[zjl p l]
  ·simp
theorem zdu(b:Bytes):(S b).length=b.length:=by show b.toArray.size=_;simp
theorem ztn(b:Bytes)(i j:Nat)(hi:i<=b.length):cutS (S b) (some (i:Int)) (some (j:Int))=S ((b.drop i).take (j - i)):=by
 unfold cutS
 rw[HT.sIx_nat,HT.sIx_nat,zdu,qg7 hi]
 show (⟨_⟩:Str)=⟨_⟩
 congr 2
 show ((b.drop i).take _)=_
 by_cases h:j<=b.length
 ·rw[qg7 h]
 ·rw[qhj (by lia),qe5 (by simp),qe5 (by simp;lia)]
def spRun:Sp:=λvs H Q _=>∃(b:Bytes)(i:Nat)(z:Str)(p:Nat->Bool),vs=[.str (S b),.int i,.str z]/\b.length<=100000/\i<=b.length/\(∀c,decide (c∈z.cps.toList)=p c)/\Q (.int ((i+((b.drop i).takeWhile p).length:Nat):Int)) H
section
variable{P:Program}{w:World}{K:qed}{mg:Str->Option Value}{base:Heap}{ad:Ad}
theorem zw4(T:Txt K mg ad):Ok P w K mg base 1 "end_of_run" ["text","start","signs"] spRun:=by
 refine T.f_end_of_run.ok T.M c_end_of_run (λvs H Q E h=>?_) (λf cdv A outer s0 H vs Q E hr h=>?_)
 ·obtain⟨b,i,z,p,rfl,_⟩:=h
  rfl
 ·obtain⟨b,i,z,p,rfl,hb,hi,hp,q⟩:=h
  refine⟨_,zac (zap (i:=3) c_end_of_run.nd rfl (Or.inl rfl) (pv 1))
   (zac (zd0 zbl (PW.pt (qbk (zas op_lt (pv 3) (za3 zc2 rfl T.z_len (by decide +kernel) (zaa (pv 0) zae)) (zaz _)) (zwi (zas zfz (zdt qbt (pv 0) (pv 3) (λ_ _=>rfl)) (pv 2) rfl))))
    (zaf (zap (i:=3) c_end_of_run.nd rfl (Or.inl rfl) (zbc zb7 (pv 3) zan))))
   (zaf (zaq (pv 3)))),?_⟩
  have hsl:(S b).length<=sizeLine:=by rw[zdu];exact big (by lia)
  refine⟨_,rfl,λm σ H'=>∃e:Nat,σ=[some (.str (S b)),some (.int i),some (.str z),some (.int e)]/\H'=H/\e<=b.length/\e+((b.drop e).takeWhile p).length=i+((b.drop i).takeWhile p).length/\m=b.length - e,⟨_,i,rfl,rfl,hi,rfl,rfl⟩,?_⟩
  rintro m σ H' ⟨e,rfl,rfl,he,hee,rfl⟩
  refine⟨_,rfl,_,rfl,S b,rfl,hsl,_,_,rfl,rfl,_,rfl,zb3 (λc1=>?_) (λc1=>?_)⟩
  ·have c1:(e:Int)<(((S b).length:Nat):Int):=of_decide_eq_true c1
   rw[zdu]at c1
   have hlt:e<b.length:=by lia
   have hdrop:b.drop e=b[e]::b.drop (e+1):=qfb hlt
   refine⟨_,rfl,_,rfl,S b,e,b[e],rfl,rfl,hsl,zfr (by show b[e]?=_;rw[qe3 hlt]),_,rfl,b[e],z,rfl,rfl,_,rfl,?_⟩
   rw[hp]
   rw[hdrop,qfm]at hee
   cases hc:p b[e] with
   |true=>
    rw[hc]at hee
    refine⟨λσ' H''=>∃e2:Nat,σ'=[some (.str (S b)),some (.int i),some (.str z),some (.int e2)]/\H''=H'/\e2<=b.length/\e2+((b.drop e2).takeWhile p).length=i+((b.drop i).takeWhile p).length/\e<e2,λσ' H'' ⟨e2,g1,g2,g3,g4,g5⟩=>⟨b.length - e2,by lia,e2,g1,g2,g3,g4,rfl⟩,?_⟩
    refine⟨_,rfl,_,_,rfl,rfl,e+1,rfl,rfl,by lia,?_,by lia⟩
    simp only[if_true,qeg]at hee
    lia
   |false=>
    rw[hc]at hee
    simp only[qe0,if_false,qe8,qjs]at hee
    rw[<-hee]at q
    exact⟨_,rfl,q⟩
  ·have c1:¬(e:Int)<(((S b).length:Nat):Int):=of_decide_eq_false (qfd.mpr c1)
   rw[zdu]at c1
   have he2:e=b.length:=by lia
   rw[he2,qgl]at hee
   simp only[List.takeWhile_nil,qe8,qjs]at hee
   rw[<-hee,<-he2]at q
   exact⟨_,rfl,q⟩
end
abbrev zcu:=Kp169.Tok
noncomputable abbrev tokV(t:zcu):List V:=[.str (S (zjx t)),.str (S t.text)]
abbrev zrx(H:Hp)(a:Addr)(t:zcu):Prop:=H a=some (.tup (tokV t))
theorem S_bName:S zp6=("name":Str):=by decide +kernel
theorem S_bNumber:S zc5=("number":Str):=by decide +kernel
theorem wordsV:([V.str "unit",V.str "let",V.str "fn",V.str "if",V.str "then",V.str "else"]:List V)=zby Kp169.words:=by decide +kernel
def qcc(K:qed)(ad:Ad)(g:Nat->Bool):Sp:=λvs H Q E=>∃(b:Bytes)(i c:Nat),vs=[.str (S b),.int i]/\b.length<=100000/\b[i]?=some c/\g c=true ∧
 match za8 (b.drop i) with
 |none=>zaw K ad.R E (-71) 0
 |some t=>∀a H',H a=none->Same H H'->zrx H' a t->Q (.ref a) H'
theorem zn0{l:Bytes}:Kp169.digits (l.takeWhile Kp169.digit)=(l.takeWhile Kp169.digit).length:=by
 unfold Kp169.digits
 rw[qjg.mpr]
 intro x hx
 induction l with
 |nil=>simp at hx
 |cons y l ih=>
  rw[qfm]at hx
  split at hx
  ·next h=>
   rcases qer.mp hx with rfl|hx
   ·exact h
   ·exact ih hx
  ·simp at hx
theorem zyg{l z:Bytes}:Kp169.digits (l.takeWhile Kp169.digit++46::z.takeWhile Kp169.digit)=(l.takeWhile Kp169.digit).length+(z.takeWhile Kp169.digit).length:=by
 have h1:=zn0 (l:=l)
 have h2:=zn0 (l:=z)
 unfold Kp169.digits at h1 h2 ⊢
 rw[qii,qee,List.filter_cons,h1]
 have:Kp169.digit 46=false:=by decide
 rw[this]
 simp[h2]
def qeb:Bytes->Bool
 |46::_=>true
 |_=>false
theorem zx2{l:Bytes}(h:qeb l=true):∃r,l=46::r:=by
 unfold qeb at h
 split at h
 ·exact⟨_,rfl⟩
 ·cases h
theorem zz0(l:Bytes):decide (V.str (S (l.take 1))=V.str ".")=qeb l:=by
 have e:(".":Str)=S [46]:=by decide +kernel
 rw[e]
 cases l with
 |nil=>exact decide_eq_false λz=>by have:=zqc (V.str.inj z);simp at this
 |cons c q=>
  by_cases h:c=46
  ·subst h;exact decide_eq_true rfl
  ·rw[decide_eq_false (λz=>by have:=zqc (V.str.inj z);simp at this;exact h this)]
   unfold qeb
   split
   ·next heq=>injection heq with h1 h2;exact absurd h1 h
   ·rfl
theorem zev{x y:V}{H:Hp}{Q:VK}{i j n:Int}(hx:x=.int i)(hy:y=.int j)(e:i+j=n)(h:Q (V.int n) H):rI0 (λi j=>V.int (i+j)) x y H Q:=by subst e;exact⟨i,j,hx,hy,h⟩
theorem zls{v:V}{σ:L2.St}{H:Hp}{Q:VK}(h:Q v H):tC v σ H Q:=h
theorem qb7{c:Nat}{r:Bytes}(hs:Kp169.small c=false)(hd:Kp169.digit c=true):za8 (c::r)=match Kp169.numberAt (c::r) with
  |none=>none
  |some (w,_)=>if 15<Kp169.digits w then none else some ⟨1,w⟩:=by
 rw[za8,if_neg (by rw[hs];decide),if_pos hd] <;>
 cases Kp169.numberAt (c::r) <;> rfl
theorem zq1{l q:Bytes}(h:l.drop (l.takeWhile Kp169.digit).length=46::q):Kp169.numberAt l=if (q.takeWhile Kp169.digit).isEmpty then none else some (l.takeWhile Kp169.digit++46::q.takeWhile Kp169.digit,q.drop (q.takeWhile Kp169.digit).length):=by
 unfold Kp169.numberAt
 dsimp only
 rw[h]
 rfl
theorem zq2{l:Bytes}(h:qeb (l.drop (l.takeWhile Kp169.digit).length)=false):Kp169.numberAt l=some (l.takeWhile Kp169.digit,l.drop (l.takeWhile Kp169.digit).length):=by
 unfold Kp169.numberAt
 dsimp only
 split
 ·next q e=>rw[e]at h;cases h
 ·rfl
section
variable{P:Program}{w:World}{K:qed}{mg:Str->Option Value}{base:Heap}{ad:Ad}
theorem zw9(T:Txt K mg ad):Ok P w K mg base 4 "name_at" ["text","start"] (qcc K ad Kp169.small):=by
 have O1:=zw4 (P:=P) (w:=w) (base:=base) T
 have X1:=zde (P:=P) (w:=w) (base:=base) T
 obtain⟨t1,hN⟩:=T.k_NAME_SIGNS
 obtain⟨t2,hL⟩:=T.k_LONGEST_NAME
 obtain⟨hW,hWs⟩:=T.k_WORDS
 refine T.f_name_at.ok T.M c_name_at (λvs H Q E h=>?_) (λf cdv A outer s0 H vs Q E hr h=>?_)
 ·obtain⟨b,i,c,rfl,_⟩:=h
  rfl
 ·obtain⟨b,i,c,rfl,hb,hi,hg,q⟩:=h
  have h1:Room 1 _:=hr.mono (by decide:1<=3)
  have hil:i<b.length:=(qef.mp hi).1
  have hdrop:b.drop i=c::b.drop (i+1):=by rw[qfb hil,(qef.mp hi).2]
  refine⟨_,zac (zap (i:=2) c_name_at.nd rfl (Or.inl rfl) (zcw zv4 (pv 0) (zct (pv 1)) (zct (cN O1 h1 zab (zaa (pv 0) (zaa (pv 1) (zaa (zav (v:=.str "abcdefghijklmnopqrstuvwxyz0123456789_") rfl hN ⟨_,rfl⟩) zae)))))))
   (zac (za9 (zas zni (za3 zc2 rfl T.z_len (by decide +kernel) (zaa (pv 2) zae)) (zav (v:=.int 16) rfl hL ⟨_,rfl⟩) (zaz _)) (zaf (zkb X1 hr zab)) zau)
   (zac (za9 (zas zkh (pv 2) (zav (v:=.ref ad.WORDS) rfl hW rfl) rfl) (zaf (zaq (zkd (zaa (pv 2) (zaa (pv 2) zae))))) zau)
   (zaf (zaq (zkd (zaa zam (zaa (pv 2) zae)))))) ),?_⟩
  refine⟨_,rfl,_,rfl,_,rfl,_,rfl,_,rfl,b,i,_,Kp169.inName,rfl,hb,by lia,zv6,_,rfl,S b,rfl,by rw[zdu];exact big (by lia),?_⟩
  rw[ztn b i _ (by lia),show i+((b.drop i).takeWhile Kp169.inName).length - i=((b.drop i).takeWhile Kp169.inName).length by lia,zbi]
  rw[hdrop]at q ⊢
  unfold za8 at q
  dsimp only at q
  rw[hg]at q
  have wl:((c::b.drop (i+1)).takeWhile Kp169.inName).length<=100000:=by
   have:=za4 Kp169.inName (c::b.drop (i+1))
   simp only[qeg,qfl]at this
   lia
  generalize hw:(c::b.drop (i+1)).takeWhile Kp169.inName=wd at *
  refine⟨_,rfl,S wd,rfl,by rw[zdu];exact big (by lia),_,_,rfl,rfl,_,rfl,zb3 (λc1=>?_) (λc1=>?_)⟩
  ·have c1:(16:Int)<(((S wd).length:Nat):Int):=of_decide_eq_true c1
   rw[zdu]at c1
   rw[if_pos rfl,if_pos (by lia)]at q
   exact q
  have c1:¬(16:Int)<(((S wd).length:Nat):Int):=of_decide_eq_false (qfd.mpr c1)
  rw[zdu]at c1
  rw[if_pos rfl,if_neg (by lia)]at q
  refine⟨_,rfl,ad.WORDS,_,rfl,.inr (hWs H),rfl,by decide +kernel,_,rfl,?_⟩
  show if inV (.str (S wd)) [V.str "unit",V.str "let",V.str "fn",V.str "if",V.str "then",V.str "else"]=true then _ else _
  rw[wordsV,zhq]
  unfold zjp at q
  cases hc:Kp169.words.contains wd with
  |true=>
   rw[hc]at q
   refine⟨_,rfl,_,rfl,(by show 2<=sizeLine;decide),λp np=>?_⟩
   exact q p _ np (zaj np _) zad
  |false=>
   rw[hc]at q
   refine⟨_,rfl,(by show 2<=sizeLine;decide),λp np=>?_⟩
   refine q p _ np (zaj np _) ?_
   show upd _ _ _ _=_
   rw[zad]
   show some (HO.tup [.str "name",.str (S wd)])=some (HO.tup [.str (S zp6),.str (S wd)])
   rw[S_bName]
theorem zqw(T:Txt K mg ad):Ok P w K mg base 4 "number_at" ["text","start"] (qcc K ad λc=>!Kp169.small c && Kp169.digit c):=by
 have O1:=zw4 (P:=P) (w:=w) (base:=base) T
 have X1:=zde (P:=P) (w:=w) (base:=base) T
 obtain⟨t1,hN⟩:=T.k_DIGITS
 obtain⟨t2,hL⟩:=T.k_MOST_DIGITS
 obtain⟨t3,hP⟩:=T.k_POINT
 refine T.f_number_at.ok T.M c_number_at (λvs H Q E h=>?_) (λf cdv A outer s0 H vs Q E hr h=>?_)
 ·obtain⟨b,i,c,rfl,_⟩:=h
  rfl
 ·obtain⟨b,i,c,rfl,hb,hi,hg,q⟩:=h
  have h1:Room 1 _:=hr.mono (by decide:1<=3)
  have hil:i<b.length:=(qef.mp hi).1
  have hdrop:b.drop i=c::b.drop (i+1):=by rw[qfb hil,(qef.mp hi).2]
  simp only[qev,qin]at hg
  refine⟨_,zac (zap (i:=2) c_number_at.nd rfl (Or.inl rfl) (cN O1 h1 zab (zaa (pv 0) (zaa (pv 1) (zaa (zav (v:=.str "0123456789") rfl hN ⟨_,rfl⟩) zae)))))
   (zac (zap (i:=3) c_number_at.nd rfl (Or.inl rfl) (zbc zkg (pv 2) (pv 1)))
   (zac (za9 (zas zed (zcw zv4 (pv 0) (zct (pv 2)) (zct (zbc zb7 (pv 2) zan))) (zav (v:=.str ".") rfl hP ⟨_,rfl⟩) (zaz _))
    (zac (zap (i:=4) c_number_at.nd rfl (Or.inl rfl) (zbc zb7 (pv 2) zan))
    (zac (zap (i:=2) c_number_at.nd rfl (Or.inl rfl) (cN O1 h1 zab (zaa (pv 0) (zaa (pv 4) (zaa (zav (v:=.str "0123456789") rfl hN ⟨_,rfl⟩) zae)))))
    (zac (za9 (zas zed (pv 2) (pv 4) (zaz _)) (zaf (zkb X1 hr zab)) zau)
    (zaf (zap (i:=3) c_number_at.nd rfl (Or.inl rfl) (zbc zkg (zbc zb7 (pv 3) (pv 2)) (pv 4)))))))
    zau)
   (zac (za9 (zas zni (pv 3) (zav (v:=.int 15) rfl hL ⟨_,rfl⟩) (zaz _)) (zaf (zkb X1 hr zab)) zau)
   (zaf (zaq (zkd (zaa zam (zaa (zcw zv4 (pv 0) (zct (pv 1)) (zct (pv 2))) zae)))))))),?_⟩
  have hsz:(S b).length<=sizeLine:=by rw[zdu];exact big (by lia)
  have wle:=za4 Kp169.digit (b.drop i)
  rw[qfl]at wle
  rw[hdrop,qb7 hg.1 hg.2,<-hdrop]at q
  have hdd:(b.drop i).drop ((b.drop i).takeWhile Kp169.digit).length=b.drop (i+((b.drop i).takeWhile Kp169.digit).length):=by rw[qhh]
  have htk:=zbi Kp169.digit (b.drop i)
  have hpt:=λr=>zq1 (l:=b.drop i) (q:=r)
  have hno:=zq2 (l:=b.drop i)
  have hdw:=zn0 (l:=b.drop i)
  have hdz:=λz=>zyg (l:=b.drop i) (z:=z)
  have happ:(b.drop i).takeWhile Kp169.digit++(b.drop i).drop ((b.drop i).takeWhile Kp169.digit).length=b.drop i:=by
   conv=>lhs;lhs;rw[<-htk]
   exact qf8 _ _
  rw[hdd]at hno happ
  simp only[hdd]at hpt
  refine⟨_,rfl,_,rfl,b,i,_,Kp169.digit,rfl,hb,by lia,zh2,?_⟩
  generalize hw:(b.drop i).takeWhile Kp169.digit=wd at *
  refine⟨_,rfl,_,rfl,zsm rfl rfl (n:=(wd.length:Int)) (by lia) ?_⟩
  refine⟨_,rfl,_,rfl,_,rfl,_,rfl,zls (zev rfl rfl (n:=((i+wd.length+1:Nat):Int)) (by lia) ?_)⟩
  refine⟨_,rfl,S b,rfl,hsz,rfl,_,rfl,?_⟩
  rw[ztn b _ _ (by lia),show i+wd.length+1 - (i+wd.length)=1 by lia,zz0]
  cases hm:qeb (b.drop (i+wd.length)) with
  |true=>
   obtain⟨r,hr46⟩:=zx2 hm
   have hlt:i+wd.length<b.length:=by
    have:=congrArg qg4 hr46
    simp only[qfl,qeg]at this
    lia
   have hr2:b.drop (i+wd.length+1)=r:=by
    rw[<-qhh,hr46];rfl
   rw[hpt r hr46]at q
   have zle:=za4 Kp169.digit r
   have rlen:r.length=b.length - (i+wd.length+1):=by rw[<-hr2,qfl]
   refine⟨_,rfl,zls (zev rfl rfl (n:=((i+wd.length+1:Nat):Int)) (by lia) ?_)⟩
   refine⟨_,rfl,_,rfl,b,i+wd.length+1,_,Kp169.digit,rfl,hb,by lia,zh2,?_⟩
   rw[hr2]
   refine⟨_,rfl,_,rfl,rfl,_,rfl,?_⟩
   rw[ztd]
   cases hz:r.takeWhile Kp169.digit with
   |nil=>
    rw[hz]at q
    rw[show (i+wd.length+1+([]:Bytes).length == i+wd.length+1)=true by simp]
    exact q
   |cons z0 zs=>
    rw[hz]at q
    have hdz2:=hdz r
    rw[hz]at hdz2 zle
    rw[show (i+wd.length+1+(z0::zs).length == i+wd.length+1)=false by simp]
    refine⟨_,rfl,_,rfl,zev rfl rfl (n:=((wd.length+(i+wd.length+1+(z0::zs).length):Nat):Int)) (by lia) ?_⟩
    refine⟨_,rfl,zsm rfl rfl (n:=((wd.length+(z0::zs).length:Nat):Int)) (by lia) ?_⟩
    rw[if_neg (by simp)]at q
    dsimp only at q
    rw[hdz2]at q
    refine⟨_,rfl,_,_,rfl,rfl,_,rfl,zb3 (λc1=>?_) (λc1=>?_)⟩
    ·have c1:(15:Int)<((wd.length+(z0::zs).length:Nat):Int):=of_decide_eq_true c1
     rw[if_pos (by lia)]at q
     exact q
    have c1:¬(15:Int)<((wd.length+(z0::zs).length:Nat):Int):=of_decide_eq_false (qfd.mpr c1)
    rw[if_neg (by lia)]at q
    refine⟨_,rfl,_,rfl,_,rfl,_,rfl,_,rfl,S b,rfl,hsz,?_⟩
    rw[ztn b i _ (by lia)]
    refine⟨(by show 2<=sizeLine;decide),λp np=>?_⟩
    refine q p _ np (zaj np _) ?_
    show upd _ _ _ _=_
    rw[zad]
    have et:(b.drop i).take (i+wd.length+1+(z0::zs).length - i)=wd++46::(z0::zs):=by
     rw[<-happ,hr46,show i+wd.length+1+(z0::zs).length - i=wd.length+(1+(z0::zs).length) by lia,qiv,qe5 (by lia)]
     rw[show wd.length+(1+(z0::zs).length) - wd.length=(z0::zs).length+1 by lia,List.take_succ_cons,<-hz,zbi]
    rw[et]
    show some (HO.tup [.str "number",_])=some (HO.tup [.str (S zc5),_])
    rw[S_bNumber]
  |false=>
   rw[hno hm]at q
   dsimp only at q
   rw[hdw]at q
   refine⟨_,rfl,_,_,rfl,rfl,_,rfl,zb3 (λc1=>?_) (λc1=>?_)⟩
   ·have c1:(15:Int)<(wd.length:Int):=of_decide_eq_true c1
    rw[if_pos (by lia)]at q
    exact q
   have c1:¬(15:Int)<(wd.length:Int):=of_decide_eq_false (qfd.mpr c1)
   rw[if_neg (by lia)]at q
   refine⟨_,rfl,_,rfl,_,rfl,_,rfl,_,rfl,S b,rfl,hsz,?_⟩
   rw[ztn b i _ (by lia),show i+wd.length - i=wd.length by lia,htk]
   refine⟨(by show 2<=sizeLine;decide),λp np=>?_⟩
   refine q p _ np (zaj np _) ?_
   show upd _ _ _ _=_
   rw[zad]
   show some (HO.tup [.str "number",_])=some (HO.tup [.str (S zc5),_])
   rw[S_bNumber]
end
def zzn(K:qed)(ad:Ad):Sp:=λvs H Q E=>∃(b:Bytes),vs=[.str (S b)]/\b.length<=100000 ∧
 match zkt b with
 |none=>zaw K ad.R E (-71) 0
 |some ts=>∀a rs H',H a=none->Same H H'->H' a=some (.lst (rs.map V.ref))->Paired (λp t=>zrx H' p t) rs ts->ts.length<=b.length->Q (.ref a) H'
def zzi(K:qed)(ad:Ad):Sp:=λvs H Q E=>∃(p:Addr)(b:Bytes),vs=[.ref p]/\SqL K H p ((zn8 b).map V.int) ∧
 if 8192<b.length then zaw K ad.R E (-28) 0 else
 match Kp169.tokens b with
 |none=>zaw K ad.R E (-71) 0
 |some ts=>if 2048<ts.length then zaw K ad.R E (-28) 0 else ∀a rs H',H a=none->Same H H'->H' a=some (.lst (rs.map V.ref))->Paired (λp t=>zrx H' p t) rs ts->Q (.ref a) H'
theorem zeo:∀{l:Bytes}{c:Nat}{r:Bytes},l.dropWhile zb4=c::r->zb4 c=false
 |[],c,r,h=>by simp at h
 |x::l,c,r,h=>by
  rw[qhl]at h
  split at h
  ·exact zeo h
  ·next hb=>injection h with h1 h2;subst h1;simpa using hb
section
variable{P:Program}{w:World}{K:qed}{mg:Str->Option Value}{base:Heap}{ad:Ad}
theorem zui(T:Txt K mg ad):Ok P w K mg base 5 "token_at" ["text","start"] (qcc K ad λ_=>true):=by
 have O1:=zw9 (P:=P) (w:=w) (base:=base) T
 have O2:=zqw (P:=P) (w:=w) (base:=base) T
 have X1:=zde (P:=P) (w:=w) (base:=base) T
 obtain⟨t1,hL⟩:=T.k_LETTERS
 obtain⟨t2,hD⟩:=T.k_DIGITS
 obtain⟨t3,hS⟩:=T.k_SIGNS
 refine T.f_token_at.ok T.M c_token_at (λvs H Q E h=>?_) (λf cdv A outer s0 H vs Q E hr h=>?_)
 ·obtain⟨b,i,c,rfl,_⟩:=h
  rfl
 ·obtain⟨b,i,c,rfl,hb,hi,hg,q⟩:=h
  have h3:Room 3 _:=hr.mono (by decide:3<=4)
  have hil:i<b.length:=(qef.mp hi).1
  have hdrop:b.drop i=c::b.drop (i+1):=by rw[qfb hil,(qef.mp hi).2]
  have hsz:(S b).length<=sizeLine:=by rw[zdu];exact big (by lia)
  refine⟨_,zac (zap (i:=2) c_token_at.nd rfl (Or.inl rfl) (zdt qbt (pv 0) (pv 1) (λ_ _=>rfl)))
   (zac (za9 (zas zfz (pv 2) (zav (v:=.str "abcdefghijklmnopqrstuvwxyz") rfl hL ⟨_,rfl⟩) rfl) (zaf (zaq (cN O1 hr zab (zaa (pv 0) (zaa (pv 1) zae))))) zau)
   (zac (za9 (zas zfz (pv 2) (zav (v:=.str "0123456789") rfl hD ⟨_,rfl⟩) rfl) (zaf (zaq (cN O2 hr zab (zaa (pv 0) (zaa (pv 1) zae))))) zau)
   (zac (za9 (zas zfz (pv 2) (zav (v:=.str "(),;=+-*/^<") rfl hS ⟨_,rfl⟩) rfl) (zaf (zaq (zkd (zaa (pv 2) (zaa (pv 2) zae))))) zau)
   (zaf (zkb X1 h3 zab))))),?_⟩
  refine⟨_,rfl,_,rfl,S b,i,c,rfl,rfl,hsz,zfr hi,?_⟩
  refine⟨_,rfl,c,_,rfl,rfl,_,rfl,?_⟩
  rw[zqq]
  cases h1:Kp169.small c with
  |true=>exact⟨_,rfl,_,rfl,b,i,c,rfl,hb,hi,h1,q⟩
  |false=>
   refine⟨_,rfl,c,_,rfl,rfl,_,rfl,?_⟩
   rw[zh2]
   cases h2:Kp169.digit c with
   |true=>exact⟨_,rfl,_,rfl,b,i,c,rfl,hb,hi,by show (!Kp169.small c && Kp169.digit c)=true;rw[h1,h2];rfl,q⟩
   |false=>
    refine⟨_,rfl,c,_,rfl,rfl,_,rfl,?_⟩
    rw[zv5]
    rw[hdrop,za8,h1,h2]at q
    simp only[qe0,if_false]at q
    cases h3:Kp169.signs.contains c with
    |true=>
     rw[h3]at q
     refine⟨_,rfl,_,rfl,(by show 2<=sizeLine;decide),λp np=>?_⟩
     exact q p _ np (zaj np _) zad
    |false=>
     rw[h3]at q
     exact q
theorem zw5(T:Txt K mg ad):Ok P w K mg base 6 "parted" ["text"] (zzn K ad):=by
 have O1:=zw4 (P:=P) (w:=w) (base:=base) T
 have O2:=zui (P:=P) (w:=w) (base:=base) T
 obtain⟨t1,hB⟩:=T.k_BLANKS
 refine T.f_parted.ok T.M c_parted (λvs H Q E h=>?_) (λf cdv A outer s0 H vs Q E hr h=>?_)
 ·obtain⟨b,rfl,_⟩:=h
  rfl
 ·obtain⟨b,rfl,hb,q⟩:=h
  have h1:Room 1 _:=hr.mono (by decide:1<=5)
  have hsz:(S b).length<=sizeLine:=by rw[zdu];exact big (by lia)
  refine⟨_,zac (zap (i:=1) c_parted.nd rfl (Or.inl rfl) (zbx zae))
   (zac (zap (i:=2) c_parted.nd rfl (Or.inl rfl) (cN O1 h1 zab (zaa (pv 0) (zaa zan (zaa (zav (v:=.str " \n") rfl hB ⟨_,rfl⟩) zae)))))
   (zac (zd0 zbl (zas op_lt (pv 2) (za3 zc2 rfl T.z_len (by decide +kernel) (zaa (pv 0) zae)) (zaz _))
    (zac (zap (i:=3) c_parted.nd rfl (Or.inl rfl) (cN O2 hr zab (zaa (pv 0) (zaa (pv 2) zae))))
    (zac (zal (zh5 qe6 qff qfg zbn (pv 1) (zaa (pv 3) zae)))
    (zaf (zap (i:=2) c_parted.nd rfl (Or.inl rfl) (cN O1 h1 zab (zaa (pv 0) (zaa (zbc zb7 (pv 2) (za3 zc2 rfl T.z_len (by decide +kernel) (zaa (zdt zex (pv 3) zan (λ_ _=>rfl)) zae))) (zaa (zav (v:=.str " \n") rfl hB ⟨_,rfl⟩) zae)))))))))
   (zaf (zaq (pv 1))))),?_⟩
  refine⟨(by show 0<=sizeLine;decide),λD nD=>?_⟩
  refine⟨_,rfl,b,0,_,zb4,rfl,hb,by lia,zmd,?_⟩
  have init:∃e:Nat,0+((b.drop 0).takeWhile zb4).length=e/\b.drop e=b.dropWhile zb4/\e<=b.length:=by
   refine⟨_,rfl,?_,?_⟩
   ·rw[Nat.zero_add,qgx,zjl]
   ·have:=za4 zb4 b
    simpa using this
  obtain⟨e0,ee0,ed0,el0⟩:=init
  rw[ee0]
  have lex0:zkt b=(zkt (b.drop e0)).map (λl=>[]++l):=by
   rw[ed0,zd6]
   cases zkt b <;> simp
  have hd0:∀c r,b.drop e0=c::r->zb4 c=false:=λc r h=>by rw[ed0]at h;exact zeo h
  refine⟨λm σ H'=>∃(e:Nat)(ts:List zcu)(rs:List Addr)(v3:Option V),σ=[some (.str (S b)),some (.ref D),some (.int e),v3]/\Same H H'/\H' D=some (.lst (rs.map V.ref))/\Paired (λp t=>zrx H' p t) rs ts ∧
   e<=b.length/\zkt b=(zkt (b.drop e)).map (λl=>ts++l)/\(∀c r,b.drop e=c::r->zb4 c=false)/\ts.length<=e/\m=b.length - e,⟨_,e0,[],[],none,rfl,zaj nD _,zad,Paired.nil,el0,lex0,hd0,qf4 _,rfl⟩,?_⟩
  rintro m σ H' ⟨e,ts,rs,v3,rfl,s1,e1,P1,hel,hlex,hnb,hte,rfl⟩
  have rlen:rs.length=ts.length:=Paired.length P1
  refine⟨_,rfl,_,rfl,S b,rfl,hsz,_,_,rfl,rfl,_,rfl,zb3 (λc1=>?_) (λc1=>?_)⟩
  ·have c1:(e:Int)<(((S b).length:Nat):Int):=of_decide_eq_true c1
   rw[zdu]at c1
   have hlt:e<b.length:=by lia
   have hdrop:b.drop e=b[e]::b.drop (e+1):=qfb hlt
   have hbl:=hnb _ _ hdrop
   rw[hdrop,zpe hbl,<-hdrop]at hlex
   refine⟨λσ' H''=>∃(e2:Nat)(ts:List zcu)(rs:List Addr)(v3:Option V),σ'=[some (.str (S b)),some (.ref D),some (.int e2),v3]/\Same H H''/\H'' D=some (.lst (rs.map V.ref))/\Paired (λp t=>zrx H'' p t) rs ts ∧
    e2<=b.length/\zkt b=(zkt (b.drop e2)).map (λl=>ts++l)/\(∀c r,b.drop e2=c::r->zb4 c=false)/\ts.length<=e2/\e<e2,λσ' H'' ⟨e2,g1,g2,g3,g4,g5,g6,g7,g8,g9,g10,g11,g12⟩=>⟨b.length - e2,by lia,e2,g1,g2,g3,g4,g5,g6,g7,g8,g9,g10,g11,rfl⟩,?_⟩
   refine⟨_,rfl,_,rfl,b,e,b[e],rfl,hb,qe3 hlt,rfl,?_⟩
   cases ht:za8 (b.drop e) with
   |none=>
    rw[ht]at hlex
    rw[hlex]at q
    exact q
   |some t=>
    rw[ht]at hlex
    obtain⟨tl1,tl2,tl3⟩:=zcz ht
    rw[qfl]at tl3
    intro p H2 np s2 hp
    have pD:p≠D:=(zai e1 np).symm
    refine⟨_,rfl,.inl ⟨rfl,_,SqL.of (s2 _ _ e1)⟩,_,rfl,D,_,_,rfl,rfl,s2 _ _ e1,by rw[qec];exact zg4 (by lia),?_⟩
    refine⟨_,rfl,_,rfl,_,rfl,p,_,_,_,rfl,rfl,.inl (.inl (by rw[zah pD];exact hp)),rfl,S t.text,rfl,by rw[zdu];exact big (by lia),zev rfl rfl (n:=((e+t.text.length:Nat):Int)) (by rw[zdu];lia) ?_⟩
    refine⟨b,e+t.text.length,_,zb4,rfl,hb,by lia,zmd,?_⟩
    have run:∃e2:Nat,e+t.text.length+((b.drop (e+t.text.length)).takeWhile zb4).length=e2/\b.drop e2=(b.drop (e+t.text.length)).dropWhile zb4/\e2<=b.length:=by
     refine⟨_,rfl,?_,?_⟩
     ·rw[<-qhh,zjl]
     ·have:=za4 zb4 (b.drop (e+t.text.length))
      rw[qfl]at this
      lia
    obtain⟨e2,ee2,ed2,el2⟩:=run
    rw[ee2]
    refine⟨e2,ts++[t],rs++[p],_,rfl,zay (s1.trans s2) nD _,by rw[zad,qej];rfl,?_,el2,?_,λc r h=>by rw[ed2]at h;exact zeo h,by simp;lia,by lia⟩
    ·refine zwm (Paired.mapP P1 λq u h=>?_) (by show upd _ _ _ _=_;rw[zah pD];exact hp)
     show upd _ _ _ _=_
     rw[zah (zf6 (s2 _ _ h) (s2 _ _ e1) (by intro z;cases z))]
     exact s2 _ _ h
    ·dsimp only at hlex
     rw[qhh]at hlex
     rw[hlex,ed2,zd6]
     cases zkt (b.drop (e+t.text.length)) <;> simp
  ·have c1:¬(e:Int)<(((S b).length:Nat):Int):=of_decide_eq_false (qfd.mpr c1)
   rw[zdu]at c1
   have he2:e=b.length:=by lia
   rw[he2,qgl,zs9]at hlex
   simp only[qez,qfe]at hlex
   rw[hlex]at q
   exact⟨_,rfl,q D rs H' nD s1 e1 P1 (by lia)⟩
theorem zwz(T:Txt K mg ad):Ok P w K mg base 7 "tokens_of" ["t"] (zzi K ad):=by
 have O1:=qc9 (P:=P) (w:=w) (base:=base) T
 have O2:=zw5 (P:=P) (w:=w) (base:=base) T
 have X1:=zf0 (P:=P) (w:=w) (base:=base) T
 obtain⟨t1,hM⟩:=T.k_MOST_BYTES
 obtain⟨t2,hN⟩:=T.k_MOST_TOKENS
 refine T.f_tokens_of.ok T.M c_tokens_of (λvs H Q E h=>?_) (λf cdv A outer s0 H vs Q E hr h=>?_)
 ·obtain⟨p,b,rfl,_⟩:=h
  rfl
 ·obtain⟨p,b,rfl,hp,q⟩:=h
  have h1:Room 1 _:=hr.mono (by decide:1<=6)
  have h3:Room 3 _:=hr.mono (by decide:3<=6)
  refine⟨_,zac (za9 (zas zni (za3 za7 rfl T.z_len (by decide +kernel) (zaa (pv 0) zae)) (zav (v:=.int 8192) rfl hM ⟨_,rfl⟩) (zaz _)) (zaf (zng X1 h3 zab zan)) zau)
   (zac (zap (i:=1) c_tokens_of.nd rfl (Or.inl rfl) (cN O2 hr zab (zaa (cN O1 h1 zab (zaa (pv 0) zae)) zae)))
   (zac (za9 (zas zni (za3 za7 rfl T.z_len (by decide +kernel) (zaa (pv 1) zae)) (zav (v:=.int 2048) rfl hN ⟨_,rfl⟩) (zaz _)) (zaf (zng X1 h3 zab zan)) zau)
   (zaf (zaq (pv 1))))),?_⟩
  refine⟨_,rfl,p,_,rfl,.inl hp,_,_,rfl,rfl,_,rfl,zb3 (λc1=>?_) (λc1=>?_)⟩
  ·have c1:(8192:Int)<((((zn8 b).map V.int).length:Nat):Int):=of_decide_eq_true c1
   rw[qec,qec]at c1
   rw[if_pos (by lia)]at q
   exact⟨0,rfl,q⟩
  have c1:¬(8192:Int)<((((zn8 b).map V.int).length:Nat):Int):=of_decide_eq_false (qfd.mpr c1)
  rw[qec,qec]at c1
  rw[if_neg (by lia),zit]at q
  refine⟨_,rfl,p,b,rfl,hp,by lia,λH1 s1=>?_⟩
  refine⟨b.map zcq,rfl,by rw[qec];lia,?_⟩
  cases hl:zkt (b.map zcq) with
  |none=>rw[hl]at q;exact q
  |some ts=>
   rw[hl]at q
   dsimp only at q
   intro a rs H2 na s2 ea P2 _
   have rlen:rs.length=ts.length:=Paired.length P2
   refine⟨_,rfl,a,_,rfl,.inl (SqL.of ea),_,_,rfl,rfl,_,rfl,zb3 (λc2=>?_) (λc2=>?_)⟩
   ·have c2:(2048:Int)<(((rs.map V.ref).length:Nat):Int):=of_decide_eq_true c2
    rw[qec]at c2
    rw[if_pos (by lia)]at q
    exact⟨0,rfl,q⟩
   have c2:¬(2048:Int)<(((rs.map V.ref).length:Nat):Int):=of_decide_eq_false (qfd.mpr c2)
   rw[qec]at c2
   rw[if_neg (by lia)]at q
   exact⟨_,rfl,q a rs H2 (s1.free na) (s1.trans s2) ea P2⟩
end
open Kp169 (Bytes isTok eat nameAt bytesOf)
def rf(lt:Addr)(n:Int)(ls:Addr):List (Str×V):=[("tokens",.ref lt),("position",.int n),("steps",.ref ls)]
abbrev Stp(H:Hp)(t:Addr)(x:Sx):Prop:=H t=some (.tup (sxV x))
structure RAt(ad:Ad)(H:Hp)(rd dx lt ls:Addr)(ras:List Addr)(all:List zcu)(n:Nat)(xs:List Sx)(sts:List Addr):Prop where
 ob:H rd=some (.ins ad.Reader dx (rf lt n ls))
 tk:H lt=some (.lst (ras.map V.ref))
 ne:lt≠ls
 tok:∀(j:Nat)(t:zcu),all[j]?=some t->∃a,ras[j]?=some a/\zrx H a t
 en:∃a,ras[all.length]?=some a/\H a=some (.tup [.str "end",.str ""])
 st:H ls=some (.lst (sts.map V.ref))
 ps:Paired (λt x=>Stp H t x) sts xs
 le:n<=all.length
 fine:∀t∈all,zlc t
 few:all.length<=10000
def F2(H H':Hp)(a b:Addr):Prop:=∀c o,H c=some o->c≠a->c≠b->H' c=some o
theorem F1.f2{H H':Hp}{a:Addr}(f:F1 H H' a)(b:Addr):F2 H H' a b:=λc o h n _=>f c o h n
theorem qb0:S qby=("end":Str):=by decide +kernel
section
variable{ad:Ad}{H:Hp}{rd dx lt ls:Addr}{ras:List Addr}{all:List zcu}{n:Nat}{xs:List Sx}{sts:List Addr}
theorem RAt.toSame{H':Hp}(R:RAt ad H rd dx lt ls ras all n xs sts)(s:Same H H'):RAt ad H' rd dx lt ls ras all n xs sts:=
 ⟨s _ _ R.ob,s _ _ R.tk,R.ne,λj t h=>by obtain⟨a,h1,h2⟩:=R.tok j t h;exact⟨a,h1,s _ _ h2⟩,by obtain⟨a,h1,h2⟩:=R.en;exact⟨a,h1,s _ _ h2⟩,s _ _ R.st,Paired.mapP R.ps λ_ _ q=>s _ _ q,R.le,R.fine,R.few⟩
theorem RAt.at(R:RAt ad H rd dx lt ls ras all n xs sts):∃a w,ras[n]?=some a/\H a=some (.tup [.str (S (zb1 (all.drop n))),.str w])/\∀t r,all.drop n=t::r->w=S t.text:=by
 cases h:all.drop n with
 |nil=>
  have:n=all.length:=by have:=congrArg qg4 h;simp at this;have:=R.le;lia
  subst this
  obtain⟨a,h1,h2⟩:=R.en
  exact⟨a,_,h1,by rw[h2,<-qb0];rfl,λt r z=>by cases z⟩
 |cons t r=>
  have hn:n<all.length:=by have:=congrArg qg4 h;simp at this;lia
  have ht:all[n]?=some t:=by
   rw[qfb hn]at h
   injection h with h1 h2
   rw[qe3 hn,h1]
  obtain⟨a,h1,h2⟩:=R.tok n t ht
  exact⟨a,_,h1,h2,λu q z=>by injection z with z1 z2;rw[z1]⟩
theorem RAt.move(R:RAt ad H rd dx lt ls ras all n xs sts){m:Nat}(hm:m<=all.length):RAt ad (upd H rd (.ins ad.Reader dx (rf lt m ls))) rd dx lt ls ras all m xs sts:=by
 have k:∀{c:Addr}{o:HO},H c=some o->(∀C d fs,o≠.ins C d fs)->upd H rd (.ins ad.Reader dx (rf lt m ls)) c=some o:=λ{c o} e z=>by
  rw[zah (λy=>by subst y;rw[R.ob]at e;cases e;exact z _ _ _ rfl)];exact e
 exact⟨zad,k R.tk (λ_ _ _ z=>nomatch z),R.ne,λj t h=>by obtain⟨a,h1,h2⟩:=R.tok j t h;exact⟨a,h1,k h2 (λ_ _ _ z=>nomatch z)⟩,by obtain⟨a,h1,h2⟩:=R.en;exact⟨a,h1,k h2 (λ_ _ _ z=>nomatch z)⟩,k R.st (λ_ _ _ z=>nomatch z),Paired.mapP R.ps λ_ _ q=>k q (λ_ _ _ z=>nomatch z),hm,R.fine,R.few⟩
theorem RAt.put(R:RAt ad H rd dx lt ls ras all n xs sts){T:Addr}{x:Sx}(hT:Stp H T x):RAt ad (upd H ls (.lst (sts.map V.ref++[.ref T]))) rd dx lt ls ras all n (xs++[x]) (sts++[T]):=by
 have k:∀{c:Addr}{o:HO},H c=some o->(∀l,o≠.lst l)->upd H ls (.lst (sts.map V.ref++[.ref T])) c=some o:=λ{c o} e z=>by
  rw[zah (λy=>by subst y;rw[R.st]at e;cases e;exact z _ rfl)];exact e
 refine⟨k R.ob (λ_ z=>nomatch z),by rw[zah R.ne];exact R.tk,R.ne,λj t h=>by obtain⟨a,h1,h2⟩:=R.tok j t h;exact⟨a,h1,k h2 (λ_ z=>nomatch z)⟩,by obtain⟨a,h1,h2⟩:=R.en;exact⟨a,h1,k h2 (λ_ z=>nomatch z)⟩,by rw[zad,qej];rfl,?_,R.le,R.fine,R.few⟩
 exact zwm (Paired.mapP R.ps λ_ _ q=>k q (λ_ z=>nomatch z)) (k hT (λ_ z=>nomatch z))
theorem RAt.slen(R:RAt ad H rd dx lt ls ras all n xs sts):sts.length=xs.length:=Paired.length R.ps
theorem RAt.in1(R:RAt ad H rd dx lt ls ras all n xs sts):In1 (all.drop n):=⟨λt ht=>R.fine t (qey ht),by have:=R.few;simp;lia⟩
theorem RAt.oks(R:RAt ad H rd dx lt ls ras all n xs sts):∀t∈all.drop n,zim t:=λt ht=>(R.fine t (qey ht)).ok
end
def qcv(ad:Ad):Sp:=λvs H Q _=>∃(rd dx lt ls:Addr)(ras:List Addr)(all:List zcu)(n:Nat)(xs:List Sx)(sts:List Addr),vs=[.ref rd]/\RAt ad H rd dx lt ls ras all n xs sts/\Q (.str (S (zb1 (all.drop n)))) H
def spTake(K:qed)(ad:Ad):Sp:=λvs H Q E=>∃(rd dx lt ls:Addr)(ras:List Addr)(all:List zcu)(n:Nat)(xs:List Sx)(sts:List Addr)(z:Str)(w:Bytes),vs=[.ref rd,.str z]/\RAt ad H rd dx lt ls ras all n xs sts/\z=S w/\w≠qby ∧
 (zb1 (all.drop n)=w->∀H' t r,all.drop n=t::r->RAt ad H' rd dx lt ls ras all (n+1) xs sts->F1 H H' rd->Q (.str (S t.text)) H')/\(zb1 (all.drop n)≠w->zaw K ad.R E (-71) 0)
def zzj(ad:Ad):Sp:=λvs H Q E=>∃(rd dx lt ls:Addr)(ras:List Addr)(all:List zcu)(n:Nat)(xs:List Sx)(sts:List Addr)(z:Str)(w:Bytes),vs=[.ref rd,.str z]/\RAt ad H rd dx lt ls ras all n xs sts/\z=S w/\w≠qby ∧
 (zb1 (all.drop n)=w->∀H',RAt ad H' rd dx lt ls ras all (n+1) xs sts->F1 H H' rd->Q (.bl true) H')/\(zb1 (all.drop n)≠w->Q (.bl false) H)
def spPut(ad:Ad):Sp:=λvs H Q E=>∃(rd dx lt ls:Addr)(ras:List Addr)(all:List zcu)(n:Nat)(xs:List Sx)(sts:List Addr)(x:Sx),vs=[.ref rd,.str (sxW x),.str (sxN x),.int (sxI x)]/\RAt ad H rd dx lt ls ras all n xs sts/\xs.length<=100000 ∧
 ∀H' sts',RAt ad H' rd dx lt ls ras all n (xs++[x]) sts'->F1 H H' ls->Q .non H'
theorem zh0(a b:Bytes):decide (V.str (S a)=V.str (S b))=decide (a=b):=by
 rw[decide_eq_decide]
 exact⟨λh=>zqc (V.str.inj h),λh=>by rw[h]⟩
section
variable{P:Program}{w:World}{K:qed}{mg:Str->Option Value}{base:Heap}{ad:Ad}
theorem zjh(T:Txt K mg ad):OkM P w K mg base 1 ad.Reader "ahead" ["self"] (qcv ad):=by
 refine T.m_Reader_ahead.ok T.l_Reader zl2 (λvs H Q E h=>?_) (λf cdv A outer s H vs Q E hr h=>?_)
 ·obtain⟨rd,dx,lt,ls,ras,all,n,xs,sts,rfl,_⟩:=h
  rfl
 ·obtain⟨rd,dx,lt,ls,ras,all,n,xs,sts,rfl,R,q⟩:=h
  obtain⟨a,wd,h1,h2,h3⟩:=R.at
  refine⟨_,zaf (zaq (zdt zex (zdt zfl (zar (pv 0) rfl) (zar (pv 0) rfl) (λ_ _=>rfl)) zan (λ_ _=>rfl))),?_⟩
  exact⟨_,rfl,rd,ad.Reader,dx,_,_,rfl,R.ob,T.l_Reader,T.n_Reader_tokens,rfl,_,rfl,rd,ad.Reader,dx,_,_,rfl,R.ob,T.l_Reader,T.n_Reader_position,rfl,lt,_,_,_,rfl,rfl,SqL.of R.tk,zfr (by rw[qeh,h1];rfl),a,_,_,_,rfl,rfl,.inl (.inl h2),rfl,q⟩
theorem znk(T:Txt K mg ad):OkM P w K mg base 4 ad.Reader "take" ["self","sort"] (spTake K ad):=by
 have X1:=zde (P:=P) (w:=w) (base:=base) T
 refine T.m_Reader_take.ok T.l_Reader c_Reader_take (λvs H Q E h=>?_) (λf cdv A outer s H vs Q E hr h=>?_)
 ·obtain⟨rd,dx,lt,ls,ras,all,n,xs,sts,z,wd,rfl,_⟩:=h
  rfl
 ·obtain⟨rd,dx,lt,ls,ras,all,n,xs,sts,z,wd,rfl,R,rfl,hw,q1,q2⟩:=h
  obtain⟨a,wt,h1,h2,h3⟩:=R.at
  refine⟨_,zac (zap (i:=2) c_Reader_take.nd rfl (Or.inl rfl) (zdt zfl (zar (pv 0) rfl) (zar (pv 0) rfl) (λ_ _=>rfl)))
   (zac (za9 (zas zo7 (zdt zex (pv 2) zan (λ_ _=>rfl)) (pv 1) (zaz _)) (zaf (zkb X1 hr zab)) zau)
   (zac (zb6 (pv 0) (zbc zb7 (zar (pv 0) rfl) zan) rfl)
   (zaf (zaq (zdt zex (pv 2) zan (λ_ _=>rfl)))))),?_⟩
  refine⟨_,rfl,rd,ad.Reader,dx,_,_,rfl,R.ob,T.l_Reader,T.n_Reader_tokens,rfl,_,rfl,rd,ad.Reader,dx,_,_,rfl,R.ob,T.l_Reader,T.n_Reader_position,rfl,lt,_,_,_,rfl,rfl,SqL.of R.tk,zfr (by rw[qeh,h1];rfl),?_⟩
  refine⟨_,rfl,a,_,_,_,rfl,rfl,.inl (.inl h2),rfl,_,rfl,rfl,_,rfl,?_⟩
  rw[zh0]
  by_cases hc:zb1 (all.drop n)=wd
  ·rw[decide_eq_true hc]
   cases hd:all.drop n with
   |nil=>rw[hd]at hc;exact absurd hc.symm hw
   |cons t r=>
    have hn:n<all.length:=by have:=congrArg qg4 hd;simp at this;lia
    have R2:=R.move (m:=n+1) (by lia)
    refine⟨_,rfl,rd,ad.Reader,dx,_,_,rfl,R.ob,T.l_Reader,T.n_Reader_position,rfl,zls (zev rfl rfl (n:=((n+1:Nat):Int)) (by lia) ?_)⟩
    refine⟨_,rfl,rd,ad.Reader,dx,_,rfl,R.ob,T.l_Reader,T.n_Reader_position,(by show 3<1000;decide),?_⟩
    have ha:a≠rd:=zf6 h2 R.ob (by intro z;cases z)
    refine⟨_,rfl,a,_,_,_,rfl,rfl,.inl (.inl (by rw[zah ha];exact h2)),rfl,?_⟩
    rw[h3 t r hd]
    exact q1 hc _ t r hd R2 (zpt _ _ _)
  ·rw[decide_eq_false hc]
   exact q2 hc
theorem zw2(T:Txt K mg ad):OkM P w K mg base 2 ad.Reader "take_if" ["self","sort"] (zzj ad):=by
 have O1:=zjh (P:=P) (w:=w) (base:=base) T
 refine T.m_Reader_take_if.ok T.l_Reader zi8 (λvs H Q E h=>?_) (λf cdv A outer s H vs Q E hr h=>?_)
 ·obtain⟨rd,dx,lt,ls,ras,all,n,xs,sts,z,wd,rfl,_⟩:=h
  rfl
 ·obtain⟨rd,dx,lt,ls,ras,all,n,xs,sts,z,wd,rfl,R,rfl,hw,q1,q2⟩:=h
  refine⟨_,zac (za9 (zas zo7 (cM0 O1 hr zab (pv 0)) (pv 1) (zaz _)) (zaf (zaq zo3)) zau)
   (zac (zb6 (pv 0) (zbc zb7 (zar (pv 0) rfl) zan) rfl)
   (zaf (zaq zo3))),?_⟩
  refine⟨_,rfl,rd,dx,_,rfl,R.ob,rfl,rd,dx,lt,ls,ras,all,n,xs,sts,rfl,R,_,rfl,rfl,_,rfl,?_⟩
  rw[zh0]
  by_cases hc:zb1 (all.drop n)=wd
  ·rw[decide_eq_true hc]
   cases hd:all.drop n with
   |nil=>rw[hd]at hc;exact absurd hc.symm hw
   |cons t r=>
    have hn:n<all.length:=by have:=congrArg qg4 hd;simp at this;lia
    have R2:=R.move (m:=n+1) (by lia)
    refine⟨_,rfl,rd,ad.Reader,dx,_,_,rfl,R.ob,T.l_Reader,T.n_Reader_position,rfl,zls (zev rfl rfl (n:=((n+1:Nat):Int)) (by lia) ?_)⟩
    refine⟨_,rfl,rd,ad.Reader,dx,_,rfl,R.ob,T.l_Reader,T.n_Reader_position,(by show 3<1000;decide),?_⟩
    exact q1 hc _ R2 (zpt _ _ _)
  ·rw[decide_eq_false hc]
   exact q2 hc
theorem zmv(T:Txt K mg ad):OkM P w K mg base 1 ad.Reader "put" ["self","action","name","number"] (spPut ad):=by
 refine T.m_Reader_put.ok T.l_Reader zp0 (λvs H Q E h=>?_) (λf cdv A outer s H vs Q E hr h=>?_)
 ·obtain⟨rd,dx,lt,ls,ras,all,n,xs,sts,x,rfl,_⟩:=h
  rfl
 ·obtain⟨rd,dx,lt,ls,ras,all,n,xs,sts,x,rfl,R,hl,q⟩:=h
  refine⟨_,zaf (zal (zh5 qe6 qff qfg zbn (zar (pv 0) rfl) (zaa (zkd (zaa (pv 1) (zaa (pv 2) (zaa (pv 3) zae)))) zae))),?_⟩
  refine⟨_,rfl,rd,ad.Reader,dx,_,_,rfl,R.ob,T.l_Reader,T.n_Reader_steps,rfl,.inl ⟨rfl,_,SqL.of R.st⟩,_,rfl,_,rfl,_,rfl,(by show 3<=sizeLine;decide),λp np=>?_⟩
  have s1:=zaj (o:=HO.tup (sxV x)) np
  have R1:=R.toSame s1
  refine⟨ls,_,_,rfl,rfl,R1.st,by rw[qec,R.slen];exact zg4 (by lia),?_⟩
  exact q _ _ (R1.put zad) (Same.f1 s1 (zpt _ _ _))
end
open Kp169 (Bytes isTok eat nameAt bytesOf number)
theorem _root_.L2.OkM.imp{P:Program}{w:World}{K:qed}{mg:Str->Option Value}{base:Heap}{k:Nat}{C:Addr}{m:Str}{ps:List Str}{sp sp':Sp}(O:OkM P w K mg base k C m ps sp)(h:∀vs H Q E,sp' vs H Q E->sp vs H Q E):OkM P w K mg base k C m ps sp':=by
 obtain⟨c,f,fd,h1,h2,F⟩:=O
 exact⟨c,f,fd,h1,h2,F.imp h⟩
theorem _root_.L2.OkM.mono{P:Program}{w:World}{K:qed}{mg:Str->Option Value}{base:Heap}{j k:Nat}{C:Addr}{m:Str}{ps:List Str}{sp:Sp}(O:OkM P w K mg base j C m ps sp)(h:j<=k):OkM P w K mg base k C m ps sp:=by
 obtain⟨c,f,fd,h1,h2,F⟩:=O
 exact⟨c,f,fd,h1,h2,F.mono h⟩
structure Wd(w:String):Prop where
 s:Str.ofString w=S (bytesOf w)
 p:zyy (bytesOf w)
theorem w_if:Wd "if":=⟨by decide +kernel,by decide +kernel,by decide +kernel,by decide +kernel⟩
theorem w_lt:Wd "<":=⟨by decide +kernel,by decide +kernel,by decide +kernel,by decide +kernel⟩
theorem w_then:Wd "then":=⟨by decide +kernel,by decide +kernel,by decide +kernel,by decide +kernel⟩
theorem w_else:Wd "else":=⟨by decide +kernel,by decide +kernel,by decide +kernel,by decide +kernel⟩
theorem w_plus:Wd "+":=⟨by decide +kernel,by decide +kernel,by decide +kernel,by decide +kernel⟩
theorem zqj:Wd "-":=⟨by decide +kernel,by decide +kernel,by decide +kernel,by decide +kernel⟩
theorem w_star:Wd "*":=⟨by decide +kernel,by decide +kernel,by decide +kernel,by decide +kernel⟩
theorem w_over:Wd "/":=⟨by decide +kernel,by decide +kernel,by decide +kernel,by decide +kernel⟩
theorem w_hat:Wd "^":=⟨by decide +kernel,by decide +kernel,by decide +kernel,by decide +kernel⟩
theorem zvr:Wd "(":=⟨by decide +kernel,by decide +kernel,by decide +kernel,by decide +kernel⟩
theorem zjs:Wd ")":=⟨by decide +kernel,by decide +kernel,by decide +kernel,by decide +kernel⟩
theorem zvs:Wd ",":=⟨by decide +kernel,by decide +kernel,by decide +kernel,by decide +kernel⟩
theorem qbe:Wd ";":=⟨by decide +kernel,by decide +kernel,by decide +kernel,by decide +kernel⟩
theorem w_eq:Wd "=":=⟨by decide +kernel,by decide +kernel,by decide +kernel,by decide +kernel⟩
theorem w_unit:Wd "unit":=⟨by decide +kernel,by decide +kernel,by decide +kernel,by decide +kernel⟩
theorem w_let:Wd "let":=⟨by decide +kernel,by decide +kernel,by decide +kernel,by decide +kernel⟩
theorem w_fn:Wd "fn":=⟨by decide +kernel,by decide +kernel,by decide +kernel,by decide +kernel⟩
theorem qbg{p:Nat->Bool}:∀{l:List Nat},(∀c∈l,p c=true)->l.takeWhile p=l
 |[],_=>rfl
 |c::l,h=>by rw[qfm,if_pos (h c (by simp)),qbg λd hd=>h d (by simp[hd])]
theorem zyf{p:Nat->Bool}:∀{l:List Nat},¬(∀c∈l,p c=true)->∃y r,l.dropWhile p=y::r/\p y=false
 |[],h=>absurd (λc hc=>by simp at hc) h
 |c::l,h=>by
  rw[qhl]
  cases hc:p c with
  |true=>
   rw[if_pos rfl]
   refine zyf λz=>h λd hd=>?_
   rcases qer.mp hd with rfl|hd
   ·exact hc
   ·exact z d hd
  |false=>exact⟨c,l,rfl,hc⟩
theorem zzg{x:Str}:V.str x=V.str ""↔x.cps.size=0:=by
 constructor
 ·intro h;rw[V.str.inj h];rfl
 ·intro h
  obtain⟨a⟩:=x
  have:a=#[]:=Array.eq_empty_of_size_eq_zero h
  subst this
  exact congrArg V.str (by decide +kernel)
theorem zqo(x:Str):decide (V.str (PySem.Txt.stripChars x "0")=V.str "")=decide (∀c∈x.cps.toList,c=48):=by
 have hg:∀c,("0":Str).cps.contains c=(c == 48):=λc=>by
  have:("0":Str).cps=#[48]:=by decide +kernel
  rw[this];simp;rfl
 have hsz:x.cps.toList.length=x.cps.size:=by simp
 have hlen:x.length=x.cps.size:=rfl
 rw[decide_eq_decide,zzg]
 unfold PySem.Txt.stripChars PySem.Txt.stripBy PySem.stripSame PySem.stripped PySem.stripHi PySem.stripLo
 simp only[if_true]
 by_cases ha:∀c∈x.cps.toList,("0":Str).cps.contains c=true
 ·have ha':∀c∈x.cps.toList,c=48:=λc hc=>by have:=ha c hc;rw[hg]at this;simpa using this
  refine⟨λ_=>ha',λ_=>?_⟩
  rw[qbg ha,hsz,qgr (by lia)]
  split
  ·next h=>
   simp only[qev,beq_iff_eq]at h
   exact h.1
  ·show (x.cps.extract _ _).size=0
   simp
 ·refine⟨λh=>?_,λh=>absurd (λc hc=>by rw[hg,h c hc];rfl) ha⟩
  exfalso
  obtain⟨y,r,hd,hy⟩:=zyf ha
  have hdl:x.cps.toList.drop (x.cps.toList.takeWhile ("0":Str).cps.contains).length=y::r:=by rw[zjl,hd]
  have hl:=congrArg qg4 hdl
  simp only[qfl,qeg]at hl
  have ht:((y::r).reverse.takeWhile ("0":Str).cps.contains).length<=r.length:=by
   rw[List.reverse_cons,List.takeWhile_append]
   split
   ·rw[qfm,hy];simp
   ·have:=za4 ("0":Str).cps.contains r.reverse
    simpa using this
  rw[hdl]at h
  split at h
  ·lia
  ·have h:(x.cps.extract _ _).size=0:=h
   rw[Array.size_extract]at h
   rw[hlen]at h
   lia
theorem zza{w:Bytes}(hw:∀c∈w,Kp169.digit c=true\/c=46):decide (V.str (PySem.Txt.stripChars (PySem.Txt.replace (S w) "." "") "0")=V.str "")=decide ((number w).1=0):=by
 rw[zqo,decide_eq_decide,zq0]
 have e1:(".":Str)=⟨#[46]⟩:=by decide +kernel
 have e2:("":Str)=⟨#[]⟩:=by decide +kernel
 rw[e1,e2,PyProof.Rows.replace_strikes]
 constructor
 ·intro h c hc hd
  refine h c (qgb.mpr ⟨hc,?_⟩)
  have:c≠46:=λz=>by subst z;revert hd;decide
  simpa using this
 ·intro h c hc
  obtain⟨h1,h2⟩:=qgb.mp hc
  rcases hw c h1 with hd|hd
  ·exact h c h1 hd
  ·subst hd;exact absurd h2 (by decide)
def spEat(K:qed)(ad:Ad):Sp:=λvs H Q E=>∃(rd dx lt ls:Addr)(ras:List Addr)(all:List zcu)(n:Nat)(xs:List Sx)(sts:List Addr)(w:String),vs=[.ref rd,.str (Str.ofString w)]/\RAt ad H rd dx lt ls ras all n xs sts/\Wd w ∧
 match eat w (all.drop n) with
 |none=>zaw K ad.R E (-71) 0
 |some r=>∀H' v,RAt ad H' rd dx lt ls ras all (n+1) xs sts->all.drop (n+1)=r->F1 H H' rd->Q v H'
def qcr(ad:Ad):Sp:=λvs H Q E=>∃(rd dx lt ls:Addr)(ras:List Addr)(all:List zcu)(n:Nat)(xs:List Sx)(sts:List Addr)(w:String),vs=[.ref rd,.str (Str.ofString w)]/\RAt ad H rd dx lt ls ras all n xs sts/\Wd w ∧
 match eat w (all.drop n) with
 |none=>Q (.bl false) H
 |some r=>∀H',RAt ad H' rd dx lt ls ras all (n+1) xs sts->all.drop (n+1)=r->F1 H H' rd->Q (.bl true) H'
def spName(K:qed)(ad:Ad):Sp:=λvs H Q E=>∃(rd dx lt ls:Addr)(ras:List Addr)(all:List zcu)(n:Nat)(xs:List Sx)(sts:List Addr),vs=[.ref rd,.str "name"]/\RAt ad H rd dx lt ls ras all n xs sts ∧
 match nameAt (all.drop n) with
 |none=>zaw K ad.R E (-71) 0
 |some x=>∀H',RAt ad H' rd dx lt ls ras all (n+1) xs sts->F1 H H' rd->Q (.str (S x)) H'
def spNum(K:qed)(ad:Ad):Sp:=λvs H Q E=>∃(rd dx lt ls:Addr)(ras:List Addr)(all:List zcu)(n:Nat)(xs:List Sx)(sts:List Addr),vs=[.ref rd,.str "number"]/\RAt ad H rd dx lt ls ras all n xs sts ∧
 (∀t r,all.drop n=t::r->t.kind=1->∀H',RAt ad H' rd dx lt ls ras all (n+1) xs sts->F1 H H' rd->Q (.str (S t.text)) H')/\((∀t r,all.drop n=t::r->t.kind≠1)->zaw K ad.R E (-71) 0)
theorem zfo{w:String}{ts:List zcu}(h:∀t∈ts,zim t)(hw:Wd w):eat w ts=if zb1 ts=bytesOf w then some (ts.drop 1) else none:=by
 unfold eat
 by_cases hi:isTok w ts=true
 ·rw[if_pos hi,if_pos ((zpj h hw.p).mp hi)]
 ·rw[if_neg hi,if_neg λz=>hi ((zpj h hw.p).mpr z)]
theorem zbo{α:Type}(l:List α)(n:Nat):l.drop (n+1)=(l.drop n).drop 1:=by rw[qhh]
section
variable{P:Program}{w:World}{K:qed}{mg:Str->Option Value}{base:Heap}{ad:Ad}
theorem zmw(T:Txt K mg ad):OkM P w K mg base 4 ad.Reader "take" ["self","sort"] (spEat K ad):=(znk T).imp λvs H Q E ⟨rd,dx,lt,ls,ras,all,n,xs,sts,w,h1,R,hw,q⟩=>by
 refine⟨rd,dx,lt,ls,ras,all,n,xs,sts,Str.ofString w,bytesOf w,h1,R,hw.s,hw.p.2.2,λhc H' t r hd R' f'=>?_,λhc=>?_⟩
 ·rw[zfo R.oks hw,if_pos hc]at q
  exact q H' _ R' (zbo all n) f'
 ·rw[zfo R.oks hw,if_neg hc]at q
  exact q
theorem zd1(T:Txt K mg ad):OkM P w K mg base 2 ad.Reader "take_if" ["self","sort"] (qcr ad):=(zw2 T).imp λvs H Q E ⟨rd,dx,lt,ls,ras,all,n,xs,sts,w,h1,R,hw,q⟩=>by
 refine⟨rd,dx,lt,ls,ras,all,n,xs,sts,Str.ofString w,bytesOf w,h1,R,hw.s,hw.p.2.2,λhc H' R' f'=>?_,λhc=>?_⟩
 ·rw[zfo R.oks hw,if_pos hc]at q
  exact q H' R' (zbo all n) f'
 ·rw[zfo R.oks hw,if_neg hc]at q
  exact q
theorem znj(T:Txt K mg ad):OkM P w K mg base 4 ad.Reader "take" ["self","sort"] (spName K ad):=(znk T).imp λvs H Q E ⟨rd,dx,lt,ls,ras,all,n,xs,sts,h1,R,q⟩=>by
 refine⟨rd,dx,lt,ls,ras,all,n,xs,sts,"name",zp6,h1,R,S_bName.symm,by decide,λhc H' t r hd R' f'=>?_,λhc=>?_⟩
 ·rw[hd]at hc q
  have hk:t.kind=0:=(zvc (R.oks t (by rw[hd];simp))).mp hc
  simp only[Kp169.nameAt,hk,if_true]at q
  exact q H' R' f'
 ·have:nameAt (all.drop n)=none:=by
   cases e:nameAt (all.drop n) with
   |none=>rfl
   |some x=>exact absurd ((zum R.oks).mp ⟨x,e⟩) hc
  rw[this]at q
  exact q
theorem zw0(T:Txt K mg ad):OkM P w K mg base 4 ad.Reader "take" ["self","sort"] (spNum K ad):=(znk T).imp λvs H Q E ⟨rd,dx,lt,ls,ras,all,n,xs,sts,h1,R,q1,q2⟩=>by
 refine⟨rd,dx,lt,ls,ras,all,n,xs,sts,"number",zc5,h1,R,S_bNumber.symm,by decide,λhc H' t r hd R' f'=>?_,λhc=>?_⟩
 ·rw[hd]at hc
  have hk:t.kind=1:=(zei (R.oks t (by rw[hd];simp))).mp hc
  exact q1 t r hd hk H' R' f'
 ·refine q2 λt r hd hk=>hc ?_
  rw[hd]
  exact (zei (R.oks t (by rw[hd];simp))).mpr hk
end
def zzp(ad:Ad):Sp:=λvs H Q E=>∃(rd dx lt ls:Addr)(ras:List Addr)(all:List zcu)(n:Nat)(xs:List Sx)(sts:List Addr)(t:zcu)(r:List zcu),vs=[.ref rd]/\RAt ad H rd dx lt ls ras all n xs sts/\all.drop n=t::r/\t.kind=1/\xs.length<=50000 ∧
 ∀H' sts',RAt ad H' rd dx lt ls ras all (n+1) (xs++za5 (.num (number t.text).1 (number t.text).2)) sts'->F2 H H' rd ls->Q .non H'
section
variable{P:Program}{w:World}{K:qed}{mg:Str->Option Value}{base:Heap}{ad:Ad}
theorem zw7(T:Txt K mg ad):OkM P w K mg base 5 ad.Reader "read_number" ["self"] (zzp ad):=by
 have O1:=zw0 (P:=P) (w:=w) (base:=base) T
 have O2:=zmv (P:=P) (w:=w) (base:=base) T
 refine T.m_Reader_read_number.ok T.l_Reader c_Reader_read_number (λvs H Q E h=>?_) (λf cdv A outer s H vs Q E hr h=>?_)
 ·obtain⟨rd,dx,lt,ls,ras,all,n,xs,sts,t,r,rfl,_⟩:=h
  rfl
 ·obtain⟨rd,dx,lt,ls,ras,all,n,xs,sts,t,r,rfl,R,hd,hk,hx,q⟩:=h
  have h1:Room 1 _:=hr.mono (by decide:1<=4)
  refine⟨_,zac (zap (i:=1) c_Reader_read_number.nd rfl (Or.inl rfl) (qc5 (cMt O1 hr zab (pv 0))))
   (zaf (za9 (zas zed (pe_m1 PySem.F.slot_str_strip PySem.F.type_str_strip zxk (pv 1) zam) zam (zaz _))
    (zaf (zal (cM O2 h1 zab (pv 0) (zaa zam (zaa zam (zaa zan zae))))))
    (zaf (zal (cM O2 h1 zab (pv 0) (zaa zam (zaa zam (zaa zan zae)))))))),?_⟩
  have ft:=R.fine t (qey (by rw[hd];simp))
  refine⟨_,rfl,rd,dx,_,rfl,R.ob,rfl,rd,dx,lt,ls,ras,all,n,xs,sts,rfl,R,λt' r' hd' hk' H1 R1 f1=>?_,λhno=>absurd hk (hno t r hd)⟩
  rw[hd]at hd'
  injection hd' with e1 e2
  subst e1
  refine⟨_,rfl,by decide +kernel,?_,?_⟩
  ·have:("":Str).length=0:=rfl
   rw[this,zdu]
   have:=ft.len
   lia
  refine⟨_,rfl,⟨_,rfl⟩,_,_,rfl,rfl,?_,rfl,_,rfl,?_⟩
  ·have e1:(".":Str)=⟨#[46]⟩:=by decide +kernel
   have e2:("":Str)=⟨#[]⟩:=by decide +kernel
   rw[e1,e2]
   have h:=congrArg qg4 (PyProof.Rows.replace_strikes (S t.text) 46)
   have h2:=qjc (· != 46) (S t.text).cps.toList
   have h3:(S t.text).cps.toList.length=t.text.length:=by simp[S]
   have h4:(PySem.Txt.replace (S t.text) ⟨#[46]⟩ ⟨#[]⟩).length=(PySem.Txt.replace (S t.text) ⟨#[46]⟩ ⟨#[]⟩).cps.toList.length:=by simp[Str.length]
   have:=ft.len
   rw[h4,h]
   exact big (by lia)
  rw[zza (ft.num hk)]
  have ecomp:za5 (.num (number t.text).1 (number t.text).2)=[if (number t.text).1=0 then .zero else .number]:=by simp only[za5]
  rw[ecomp]at q
  by_cases hz:(number t.text).1=0
  ·rw[decide_eq_true hz]
   rw[if_pos hz]at q
   refine⟨_,rfl,rd,dx,_,rfl,R1.ob,rfl,rd,dx,lt,ls,ras,all,n+1,xs,sts,.zero,rfl,R1,by lia,λH2 sts2 R2 f2=>?_⟩
   exact q H2 sts2 R2 λc o h n1 n2=>f2 _ _ (f1 _ _ h n1) n2
  ·rw[decide_eq_false hz]
   rw[if_neg hz]at q
   refine⟨_,rfl,rd,dx,_,rfl,R1.ob,rfl,rd,dx,lt,ls,ras,all,n+1,xs,sts,.number,rfl,R1,by lia,λH2 sts2 R2 f2=>?_⟩
   exact q H2 sts2 R2 λc o h n1 n2=>f2 _ _ (f1 _ _ h n1) n2
end
open Kp169 (Bytes isTok eat bytesOf number pExpr pSum pSumRest pTerm pTermRest pPower pFactor pArgs pMore power)
abbrev KE:=Kp169.E
def spG(K:qed)(ad:Ad)(d rk:Nat)(pf:Nat->Nat->List zcu->Option (KE×List zcu)):Sp:=λvs H Q E=>∃(rd dx lt ls:Addr)(ras:List Addr)(all:List zcu)(n:Nat)(xs:List Sx)(sts:List Addr)(f:Nat),vs=[.ref rd,.int d]/\RAt ad H rd dx lt ls ras all n xs sts ∧
 xs.length+(all.drop n).length<=20000/\16*(all.drop n).length+rk<=f ∧
 if 32<d then zaw K ad.R E (-71) 0 else
 match pf f d (all.drop n) with
 |none=>zaw K ad.R E (-71) 0
 |some p=>∀H' n' sts',RAt ad H' rd dx lt ls ras all n' (xs++za5 p.1) sts'->all.drop n'=p.2->F2 H H' rd ls->Q .non H'
def qbi(K:qed)(ad:Ad)(d rk:Nat):Sp:=λvs H Q E=>∃(rd dx lt ls:Addr)(ras:List Addr)(all:List zcu)(n:Nat)(xs:List Sx)(sts:List Addr)(f:Nat),vs=[.ref rd,.int d]/\RAt ad H rd dx lt ls ras all n xs sts ∧
 xs.length+(all.drop n).length<=20000/\16*(all.drop n).length+rk<=f ∧
 match pArgs f d (all.drop n) with
 |none=>zaw K ad.R E (-71) 0
 |some p=>∀H' n' sts',RAt ad H' rd dx lt ls ras all n' (xs++zds p.1) sts'->all.drop n'=p.2->F2 H H' rd ls->Q (.int (p.1.list.length:Nat)) H'
theorem zfm{a f:Nat}(h:a+1<=f):∃g,f=g+1/\a<=g:=⟨f - 1,by lia,by lia⟩
section
variable{P:Program}{w:World}{K:qed}{mg:Str->Option Value}{base:Heap}{ad:Ad}
theorem qdh(T:Txt K mg ad)(d j:Nat)(hj:4<=j){spA:Sp}(OA:OkM P w K mg base j ad.Reader "read_arguments" ["self","depth"] spA)(hA:∀vs H Q E,qbi K ad (d+1) 7 vs H Q E->spA vs H Q E) :
  OkM P w K mg base (j+1) ad.Reader "read_name" ["self","depth"] (λvs H Q E=>d<=32/\spG K ad d 0 zqu vs H Q E):=by
 have O1:=znj (P:=P) (w:=w) (base:=base) T
 have O2:=zd1 (P:=P) (w:=w) (base:=base) T
 have O3:=zmv (P:=P) (w:=w) (base:=base) T
 refine T.m_Reader_read_name.ok T.l_Reader c_Reader_read_name (λvs H Q E h=>?_) (λf cdv A outer s H vs Q E hr h=>?_)
 ·obtain⟨_,rd,dx,lt,ls,ras,all,n,xs,sts,f,rfl,_⟩:=h
  rfl
 ·obtain⟨hd32,rd,dx,lt,ls,ras,all,n,xs,sts,f,rfl,R,hx,hf,q⟩:=h
  have h4:Room 4 _:=hr.mono hj
  have h2:Room 2 _:=hr.mono (by lia:2<=j)
  have h1:Room 1 _:=hr.mono (by lia:1<=j)
  rw[if_neg (by lia)]at q
  unfold zqu at q
  refine⟨_,zac (zap (i:=2) c_Reader_read_name.nd rfl (Or.inl rfl) (cM O1 h4 zab (pv 0) (zaa zam zae)))
   (zaf (za9 (zce (cM O2 h2 zab (pv 0) (zaa zam zae)))
    (zaf (zal (cM O3 h1 zab (pv 0) (zaa zam (zaa (pv 2) (zaa (cM OA hr zab (pv 0) (zaa (zbc zb7 (pv 1) zan) zae)) zae))))))
    (zaf (zal (cM O3 h1 zab (pv 0) (zaa zam (zaa (pv 2) (zaa zan zae)))))))),?_⟩
  refine⟨_,rfl,rd,dx,_,rfl,R.ob,rfl,rd,dx,lt,ls,ras,all,n,xs,sts,rfl,R,?_⟩
  cases hn:Kp169.nameAt (all.drop n) with
  |none=>rw[hn]at q;exact q
  |some x=>
   rw[hn]at q
   dsimp only at q ⊢
   intro H1 R1 f1
   rw[<-zbo]at q
   have l1:(all.drop (n+1)).length+1=(all.drop n).length:=by
    have:all.drop n≠[]:=λz=>by rw[z]at hn;simp[Kp169.nameAt]at hn
    have:=List.length_pos_iff.mpr this
    simp at this ⊢;lia
   refine⟨_,rfl,rd,dx,_,rfl,R1.ob,rfl,rd,dx,lt,ls,ras,all,n+1,xs,sts,"(",rfl,R1,zvr,?_⟩
   cases he:eat "(" (all.drop (n+1)) with
   |none=>
    rw[he]at q
    dsimp only at q ⊢
    refine⟨_,rfl,?_⟩
    refine⟨_,rfl,rd,dx,_,rfl,R1.ob,rfl,_,rfl,rd,dx,lt,ls,ras,all,n+1,xs,sts,.name x,rfl,R1,by lia,λH2 sts2 R2 f2=>?_⟩
    exact q H2 (n+1) sts2 R2 rfl λc o h n1 n2=>f2 _ _ (f1 _ _ h n1) n2
   |some r=>
    rw[he]at q
    dsimp only at q ⊢
    intro H2 R2 hd2 f2
    have l2:r.length+1=(all.drop (n+1)).length:=zao he
    refine⟨_,rfl,?_⟩
    refine⟨_,rfl,rd,dx,_,rfl,R2.ob,rfl,_,rfl,_,rfl,rd,dx,_,rfl,R2.ob,rfl,_,rfl,zls (zev rfl rfl (n:=((d+1:Nat):Int)) (by lia) ?_)⟩
    refine hA _ _ _ _ ⟨rd,dx,lt,ls,ras,all,n+2,xs,sts,f,rfl,R2,by rw[hd2];lia,by rw[hd2];lia,?_⟩
    rw[hd2]
    cases hp:pArgs f (d+1) r with
    |none=>rw[hp]at q;exact q
    |some p=>
     rw[hp]at q
     dsimp only[qez]at q ⊢
     intro H3 n3 sts3 R3 hd3 f3
     have g:=((gd f).args _ _ _ _ (by have:=R2.in1;rw[hd2]at this;exact this) hp).1
     have gl:=g.len
     refine⟨rd,dx,lt,ls,ras,all,n3,xs++zds p.1,sts3,.call x p.1.list.length,rfl,R3,by rw[qee];lia,λH4 sts4 R4 f4=>?_⟩
     refine q H4 n3 sts4 (by simp only[za5];rw[<-qfc];exact R4) hd3 λc o h n1 n2=>f4 _ _ (f3 _ _ (f2 _ _ (f1 _ _ h n1) n1) n1 n2) n2
end
theorem zug{g d:Nat}{ts:List zcu}(hd:32<d):pExpr g d ts=none:=by
 cases g with
 |zero=>simp[pExpr]
 |succ g=>rw[zsw,if_pos hd]
theorem zfn{g d:Nat}{ts:List zcu}{A:Prop}{B:KE×List zcu->Prop}(h:match pExpr g d ts with|none=>A|some p=>B p):if 32<d then A else match pExpr g d ts with|none=>A|some p=>B p:=by
 by_cases hd:32<d
 ·rw[if_pos hd];rw[zug hd]at h;exact h
 ·rw[if_neg hd];exact h
section
variable{P:Program}{w:World}{K:qed}{mg:Str->Option Value}{base:Heap}{ad:Ad}
theorem qdl(T:Txt K mg ad)(d j:Nat)(hj:4<=j){spE:Sp}(OE:OkM P w K mg base j ad.Reader "read_expression" ["self","depth"] spE)(hE:∀vs H Q E,spG K ad d 5 pExpr vs H Q E->spE vs H Q E) :
  OkM P w K mg base (j+1) ad.Reader "read_arguments" ["self","depth"] (qbi K ad d 7):=by
 have O1:=zmw (P:=P) (w:=w) (base:=base) T
 have O2:=zd1 (P:=P) (w:=w) (base:=base) T
 refine T.m_Reader_read_arguments.ok T.l_Reader c_Reader_read_arguments (λvs H Q E h=>?_) (λf cdv A outer s H vs Q E hr h=>?_)
 ·obtain⟨rd,dx,lt,ls,ras,all,n,xs,sts,f,rfl,_⟩:=h
  rfl
 ·obtain⟨rd,dx,lt,ls,ras,all,n,xs,sts,f,rfl,R,hx,hf,q⟩:=h
  have h4:Room 4 _:=hr.mono hj
  have h2:Room 2 _:=hr.mono (by lia:2<=j)
  obtain⟨g,rfl,hg⟩:=zfm hf
  rw[zz5]at q
  refine⟨_,zac (za9 (zce (cM O2 h2 zab (pv 0) (zaa zam zae))) (zaf (zaq zan)) zau)
   (zac (zal (cM OE hr zab (pv 0) (zaa (pv 1) zae)))
   (zac (zap (i:=2) c_Reader_read_arguments.nd rfl (Or.inl rfl) zan)
   (zac (zd0 zbl (zce (cM O2 h2 zab (pv 0) (zaa zam zae)))
    (zac (zal (cM OE hr zab (pv 0) (zaa (pv 1) zae)))
    (zaf (zap (i:=2) c_Reader_read_arguments.nd rfl (Or.inl rfl) (zbc zb7 (pv 2) zan)))))
   (zac (zal (cM O1 h4 zab (pv 0) (zaa zam zae)))
   (zaf (zaq (pv 2))))))),?_⟩
  refine⟨_,rfl,rd,dx,_,rfl,R.ob,rfl,rd,dx,lt,ls,ras,all,n,xs,sts,")",rfl,R,zjs,?_⟩
  cases he:eat ")" (all.drop n) with
  |some r=>
   rw[he]at q
   dsimp only at q ⊢
   intro H1 R1 hd1 f1
   exact⟨_,rfl,q H1 (n+1) sts (by simp only[zds,qfe];exact R1) hd1 (f1.f2 _)⟩
  |none=>
   rw[he]at q
   dsimp only at q ⊢
   obtain⟨g',rfl,hg'⟩:=zfm hg
   rw[zsu]at q
   refine⟨_,rfl,?_⟩
   refine⟨_,rfl,rd,dx,_,rfl,R.ob,rfl,_,rfl,hE _ _ _ _ ⟨rd,dx,lt,ls,ras,all,n,xs,sts,g',rfl,R,hx,hg',zfn ?_⟩⟩
   cases hp:pExpr g' d (all.drop n) with
   |none=>rw[hp]at q;exact q
   |some p=>
    rw[hp]at q
    dsimp only at q ⊢
    intro H1 n1 sts1 R1 hd1 f1
    have G:=(gd g').expr _ _ _ _ R.in1 hp
    have gl:=G.len
    have gs:=(shr g').expr _ _ _ _ hp
    refine⟨λm σ H'=>∃(n':Nat)(xs':List Sx)(sts':List Addr)(f' k:Nat),σ=[some (.ref rd),some (.int d),some (.int k)]/\RAt ad H' rd dx lt ls ras all n' xs' sts'/\F2 H H' rd ls/\xs'.length+(all.drop n').length<=20000/\16*(all.drop n').length+6<=f' ∧
     (match zqm f' d (all.drop n') with
      |none=>zaw K ad.R E (-71) 0
      |some l=>∀H'' n'' sts'',RAt ad H'' rd dx lt ls ras all n'' (xs'++zds l.1) sts''->all.drop n''=l.2->F2 H H'' rd ls->Q (.int ((k+l.1.list.length:Nat):Int)) H'')/\m=(all.drop n').length,⟨_,n1,xs++za5 p.1,sts1,g',1,rfl,R1,f1,?_,?_,?_,rfl⟩,?_⟩
    ·rw[hd1,qee];lia
    ·rw[hd1];lia
    ·rw[hd1]
     cases ht:zqm g' d p.2 with
     |none=>rw[ht]at q;exact q
     |some l=>
      rw[ht]at q
      dsimp only[qez]at q ⊢
      intro H2 n2 sts2 R2 hd2 f2
      have:=q H2 n2 sts2 (by simp only[zds];rw[<-qfc];exact R2) hd2 f2
      simp only[Kp169.Es.list,qeg]at this
      rw[qjb]
      exact this
    ·rintro m σ H2 ⟨n2,xs2,sts2,f2,k,rfl,R2,F2',hx2,hf2,q2,rfl⟩
     unfold zqm at q2
     refine⟨_,rfl,rd,dx,_,rfl,R2.ob,rfl,rd,dx,lt,ls,ras,all,n2,xs2,sts2,",",rfl,R2,zvs,?_⟩
     cases hc:eat "," (all.drop n2) with
     |some c=>
      rw[hc]at q2
      dsimp only at q2 ⊢
      intro H3 R3 hd3 f3
      have lc:=zao hc
      refine⟨_,rfl,?_⟩
      obtain⟨f2',rfl,hf2'⟩:=zfm hf2
      rw[zsu]at q2
      refine⟨λσ' H'=>∃(n':Nat)(xs':List Sx)(sts':List Addr)(f' k:Nat),σ'=[some (.ref rd),some (.int d),some (.int k)]/\RAt ad H' rd dx lt ls ras all n' xs' sts'/\F2 H H' rd ls/\xs'.length+(all.drop n').length<=20000/\16*(all.drop n').length+6<=f' ∧
       (match zqm f' d (all.drop n') with
        |none=>zaw K ad.R E (-71) 0
        |some l=>∀H'' n'' sts'',RAt ad H'' rd dx lt ls ras all n'' (xs'++zds l.1) sts''->all.drop n''=l.2->F2 H H'' rd ls->Q (.int ((k+l.1.list.length:Nat):Int)) H'')/\(all.drop n').length<(all.drop n2).length,
       λσ' H' ⟨n',xs',sts',f',k,a1,a2,a3,a4,a5,a6,a7⟩=>⟨_,a7,n',xs',sts',f',k,a1,a2,a3,a4,a5,a6,rfl⟩,?_⟩
      refine⟨_,rfl,rd,dx,_,rfl,R3.ob,rfl,_,rfl,hE _ _ _ _ ⟨rd,dx,lt,ls,ras,all,n2+1,xs2,sts2,f2',rfl,R3,by rw[hd3];lia,by rw[hd3];lia,zfn ?_⟩⟩
      rw[hd3]
      cases hp2:pExpr f2' d c with
      |none=>rw[hp2]at q2;exact q2
      |some p2=>
       rw[hp2]at q2
       dsimp only at q2 ⊢
       intro H4 n4 sts4 R4 hd4 f4
       have G2:=(gd f2').expr _ _ _ _ (by have:=R3.in1;rw[hd3]at this;exact this) hp2
       have gl2:=G2.len
       have gs2:=(shr f2').expr _ _ _ _ hp2
       refine⟨_,rfl,zls (zev rfl rfl (n:=((k+1:Nat):Int)) (by lia) ?_)⟩
       refine⟨n4,xs2++za5 p2.1,sts4,f2',k+1,rfl,R4,λc o h a1 a2=>f4 _ _ (f3 _ _ (F2' _ _ h a1 a2) a1) a1 a2,?_,?_,?_,?_⟩
       ·rw[hd4,qee];lia
       ·rw[hd4];lia
       ·rw[hd4]
        cases ht:zqm f2' d p2.2 with
        |none=>rw[ht]at q2;exact q2
        |some l=>
         rw[ht]at q2
         dsimp only[qez]at q2 ⊢
         intro H5 n5 sts5 R5 hd5 f5
         have:=q2 H5 n5 sts5 (by simp only[zds];rw[<-qfc];exact R5) hd5 f5
         simp only[Kp169.Es.list,qeg]at this
         rw[show k+1+l.1.list.length=k+(l.1.list.length+1) by lia]
         exact this
       ·rw[hd4];lia
     |none=>
      rw[hc]at q2
      dsimp only at q2 ⊢
      refine⟨_,rfl,?_⟩
      refine⟨_,rfl,rd,dx,_,rfl,R2.ob,rfl,rd,dx,lt,ls,ras,all,n2,xs2,sts2,")",rfl,R2,zjs,?_⟩
      cases hcl:eat ")" (all.drop n2) with
      |none=>rw[hcl]at q2;exact q2
      |some z=>
       rw[hcl]at q2
       dsimp only[qez]at q2 ⊢
       intro H3 v R3 hd3 f3
       refine⟨_,rfl,?_⟩
       have:=q2 H3 (n2+1) sts2 (by simp only[zds,qfe];exact R3) hd3 λc o h a1 a2=>f3 _ _ (F2' _ _ h a1 a2) a1
       simp only[Kp169.Es.list,qe8,qjs]at this
       exact this
theorem zo9(T:Txt K mg ad)(d j:Nat)(hj:5<=j){spF spE spN:Sp}(OF:OkM P w K mg base j ad.Reader "read_factor" ["self","depth"] spF)(OE:OkM P w K mg base j ad.Reader "read_expression" ["self","depth"] spE)(ON:OkM P w K mg base j ad.Reader "read_name" ["self","depth"] spN)(hF:d<=32->∀vs H Q E,spG K ad (d+1) 1 pFactor vs H Q E->spF vs H Q E)(hE:d<=32->∀vs H Q E,spG K ad (d+1) 5 pExpr vs H Q E->spE vs H Q E)(hN:d<=32->∀vs H Q E,spG K ad d 0 zqu vs H Q E->spN vs H Q E) :
  OkM P w K mg base (j+1) ad.Reader "read_factor" ["self","depth"] (spG K ad d 1 pFactor):=by
 have O1:=zmw (P:=P) (w:=w) (base:=base) T
 have O2:=zd1 (P:=P) (w:=w) (base:=base) T
 have O3:=zjh (P:=P) (w:=w) (base:=base) T
 have O4:=zw7 (P:=P) (w:=w) (base:=base) T
 have X1:=zde (P:=P) (w:=w) (base:=base) T
 obtain⟨t1,hD⟩:=T.k_DEEPEST
 refine T.m_Reader_read_factor.ok T.l_Reader zdb (λvs H Q E h=>?_) (λf cdv A outer s H vs Q E hr h=>?_)
 ·obtain⟨rd,dx,lt,ls,ras,all,n,xs,sts,f,rfl,_⟩:=h
  rfl
 ·obtain⟨rd,dx,lt,ls,ras,all,n,xs,sts,f,rfl,R,hx,hf,q⟩:=h
  have h5:Room 5 _:=hr.mono hj
  have h4:Room 4 _:=hr.mono (by lia:4<=j)
  have h3:Room 3 _:=hr.mono (by lia:3<=j)
  have h2:Room 2 _:=hr.mono (by lia:2<=j)
  have h1:Room 1 _:=hr.mono (by lia:1<=j)
  refine⟨_,zac (za9 (zas zni (pv 1) (zav (v:=.int 32) rfl hD ⟨_,rfl⟩) (zaz _)) (zaf (zkb X1 h3 zab)) zau)
   (zaf (za9 (zce (cM O2 h2 zab (pv 0) (zaa zam zae)))
    (zaf (zal (cM OF hr zab (pv 0) (zaa (zbc zb7 (pv 1) zan) zae))))
    (zaf (za9 (zce (cM O2 h2 zab (pv 0) (zaa zam zae)))
     (zac (zal (cM OE hr zab (pv 0) (zaa (zbc zb7 (pv 1) zan) zae)))
      (zaf (zal (cM O1 h4 zab (pv 0) (zaa zam zae)))))
     (zaf (za9 (zas zed (cM0 O3 h1 zab (pv 0)) zam (zaz _))
      (zaf (zal (cM0 O4 h5 zab (pv 0))))
      (zaf (zal (cM ON hr zab (pv 0) (zaa (pv 1) zae)))))))))),?_⟩
  refine⟨_,rfl,_,_,rfl,rfl,_,rfl,zb3 (λc1=>?_) (λc1=>?_)⟩
  ·have c1:(32:Int)<(d:Int):=of_decide_eq_true c1
   rw[if_pos (by lia)]at q
   exact q
  have c1:¬(32:Int)<(d:Int):=of_decide_eq_false (qfd.mpr c1)
  have hd32:d<=32:=by lia
  rw[if_neg (by lia)]at q
  obtain⟨g,rfl,hg⟩:=zfm hf
  rw[zuf g d _ R.oks]at q
  refine⟨_,rfl,rd,dx,_,rfl,R.ob,rfl,rd,dx,lt,ls,ras,all,n,xs,sts,"-",rfl,R,zqj,?_⟩
  cases hm:eat "-" (all.drop n) with
  |some r=>
   rw[hm]at q
   dsimp only at q ⊢
   intro H1 R1 hd1 f1
   have lr:=zao hm
   refine⟨_,rfl,?_⟩
   refine⟨_,rfl,rd,dx,_,rfl,R1.ob,rfl,_,rfl,zls (zev rfl rfl (n:=((d+1:Nat):Int)) (by lia) ?_)⟩
   refine hF hd32 _ _ _ _ ⟨rd,dx,lt,ls,ras,all,n+1,xs,sts,g,rfl,R1,by rw[hd1];lia,by rw[hd1];lia,?_⟩
   rw[hd1]
   by_cases h32:32<=d
   ·rw[if_pos h32]at q
    rw[if_pos (by lia)]
    exact q
   ·rw[if_neg h32]at q
    rw[if_neg (by lia)]
    cases hp:pFactor g (d+1) r with
    |none=>rw[hp]at q;exact q
    |some p=>
     rw[hp]at q
     dsimp only[qez]at q ⊢
     intro H2 n2 sts2 R2 hd2 f2
     exact q H2 n2 sts2 (by simp only[za5];exact R2) hd2 λc o h a1 a2=>f2 _ _ (f1 _ _ h a1) a1 a2
  |none=>
   rw[hm]at q
   dsimp only at q ⊢
   refine⟨_,rfl,?_⟩
   refine⟨_,rfl,rd,dx,_,rfl,R.ob,rfl,rd,dx,lt,ls,ras,all,n,xs,sts,"(",rfl,R,zvr,?_⟩
   cases ho:eat "(" (all.drop n) with
   |some r=>
    rw[ho]at q
    dsimp only at q ⊢
    intro H1 R1 hd1 f1
    have lr:=zao ho
    refine⟨_,rfl,?_⟩
    refine⟨_,rfl,rd,dx,_,rfl,R1.ob,rfl,_,rfl,zls (zev rfl rfl (n:=((d+1:Nat):Int)) (by lia) ?_)⟩
    refine hE hd32 _ _ _ _ ⟨rd,dx,lt,ls,ras,all,n+1,xs,sts,g,rfl,R1,by rw[hd1];lia,by rw[hd1];lia,zfn ?_⟩
    rw[hd1]
    cases hp:pExpr g (d+1) r with
    |none=>rw[hp]at q;exact q
    |some p=>
     rw[hp]at q
     dsimp only at q ⊢
     intro H2 n2 sts2 R2 hd2 f2
     refine⟨_,rfl,rd,dx,_,rfl,R2.ob,rfl,rd,dx,lt,ls,ras,all,n2,_,sts2,")",rfl,R2,zjs,?_⟩
     rw[hd2]
     cases hc:eat ")" p.2 with
     |none=>rw[hc]at q;exact q
     |some z=>
      rw[hc]at q
      dsimp only[qez]at q ⊢
      intro H3 v R3 hd3 f3
      exact q H3 (n2+1) sts2 R3 hd3 λc o h a1 a2=>f3 _ _ (f2 _ _ (f1 _ _ h a1) a1 a2) a1
   |none=>
    rw[ho]at q
    dsimp only at q ⊢
    refine⟨_,rfl,?_⟩
    refine⟨_,rfl,rd,dx,_,rfl,R.ob,rfl,rd,dx,lt,ls,ras,all,n,xs,sts,rfl,R,rfl,_,rfl,?_⟩
    rw[<-S_bNumber,zh0]
    by_cases hk:zb1 (all.drop n)=zc5
    ·rw[decide_eq_true hk]
     rw[if_pos hk]at q
     cases hdr:all.drop n with
     |nil=>rw[hdr]at hk;exact absurd hk (by decide)
     |cons t r=>
      rw[hdr]at hk q
      have kk:t.kind=1:=(zei (R.oks t (by rw[hdr];simp))).mp hk
      have ln:(all.drop n).length=r.length+1:=by rw[hdr];rfl
      dsimp only[zxg]at q
      refine⟨_,rfl,rd,dx,_,rfl,R.ob,rfl,rd,dx,lt,ls,ras,all,n,xs,sts,t,r,rfl,R,hdr,kk,by lia,λH1 sts1 R1 f1=>?_⟩
      exact q H1 (n+1) sts1 R1 (by rw[zbo,hdr];rfl) f1
    ·rw[decide_eq_false hk]
     rw[if_neg hk]at q
     refine⟨_,rfl,rd,dx,_,rfl,R.ob,rfl,_,rfl,hN hd32 _ _ _ _ ⟨rd,dx,lt,ls,ras,all,n,xs,sts,g,rfl,R,hx,?_,?_⟩⟩
     ·lia
     ·rw[if_neg (by lia)]
      exact q
end
theorem zpu:∀c:Nat,49<=c->c<=57->PySem.intText? (S [c])=some ((c:Int) - 48):=by
 have h:∀c:Fin 58,49<=c.val->PySem.intText? (S [c.val])=some ((c.val:Int) - 48):=by decide +kernel
 intro c h1 h2
 exact h ⟨c,by lia⟩ h1
section
variable{P:Program}{w:World}{K:qed}{mg:Str->Option Value}{base:Heap}{ad:Ad}
theorem qae(T:Txt K mg ad)(d j:Nat)(hj:4<=j){spF:Sp}(OF:OkM P w K mg base j ad.Reader "read_factor" ["self","depth"] spF)(hF:∀vs H Q E,spG K ad d 1 pFactor vs H Q E->spF vs H Q E) :
  OkM P w K mg base (j+1) ad.Reader "read_power" ["self","depth"] (spG K ad d 2 pPower):=by
 have O2:=zd1 (P:=P) (w:=w) (base:=base) T
 have O3:=zw0 (P:=P) (w:=w) (base:=base) T
 have O4:=zmv (P:=P) (w:=w) (base:=base) T
 have X1:=zde (P:=P) (w:=w) (base:=base) T
 refine T.m_Reader_read_power.ok T.l_Reader c_Reader_read_power (λvs H Q E h=>?_) (λf cdv A outer s H vs Q E hr h=>?_)
 ·obtain⟨rd,dx,lt,ls,ras,all,n,xs,sts,f,rfl,_⟩:=h
  rfl
 ·obtain⟨rd,dx,lt,ls,ras,all,n,xs,sts,f,rfl,R,hx,hf,q⟩:=h
  have h4:Room 4 _:=hr.mono hj
  have h3:Room 3 _:=hr.mono (by lia:3<=j)
  have h2:Room 2 _:=hr.mono (by lia:2<=j)
  have h1:Room 1 _:=hr.mono (by lia:1<=j)
  obtain⟨g,rfl,hg⟩:=zfm hf
  rw[zww]at q
  refine⟨_,zac (zal (cM OF hr zab (pv 0) (zaa (pv 1) zae)))
   (zac (za9 (zmn (zce (cM O2 h2 zab (pv 0) (zaa zam zae)))) (zaf zwj) zau)
   (zac (zap (i:=2) c_Reader_read_power.nd rfl (Or.inl rfl) (zz2 (zce (cM O2 h2 zab (pv 0) (zaa zam zae))) (zud zmc zan) zan))
   (zac (zap (i:=3) c_Reader_read_power.nd rfl (Or.inl rfl) (cM O3 h4 zab (pv 0) (zaa zam zae)))
   (zac (za9 (PW.pt (zwh (zas zo7 (za3 zc2 rfl T.z_len (by decide +kernel) (zaa (pv 3) zae)) zan (zaz _)) (zso (zas zed (pv 3) zam (zaz _))))) (zaf (zkb X1 h3 zab)) zau)
   (zaf (zal (cM O4 h1 zab (pv 0) (zaa zam (zaa zam (zaa (zbc qbo (pv 2) (zwu zpy rfl T.z_int (by decide +kernel) (zaa (pv 3) zae))) zae)))))))))),?_⟩
  refine⟨_,rfl,rd,dx,_,rfl,R.ob,rfl,_,rfl,hF _ _ _ _ ⟨rd,dx,lt,ls,ras,all,n,xs,sts,g,rfl,R,hx,hg,?_⟩⟩
  by_cases hd32:32<d
  ·rw[if_pos hd32]at q ⊢
   exact q
  rw[if_neg hd32]at q ⊢
  cases hp:pFactor g d (all.drop n) with
  |none=>rw[hp]at q;exact q
  |some a=>
   rw[hp]at q
   dsimp only at q ⊢
   intro H1 n1 sts1 R1 hd1 f1
   have G:=((gd g).factor _ _ _ _ R.in1 hp).len
   refine⟨_,rfl,rd,dx,_,rfl,R1.ob,rfl,rd,dx,lt,ls,ras,all,n1,_,sts1,"^",rfl,R1,w_hat,?_⟩
   rw[hd1]
   cases hh:eat "^" a.2 with
   |none=>
    rw[hh]at q
    dsimp only at q ⊢
    exact⟨_,rfl,q H1 n1 sts1 R1 hd1 f1⟩
   |some qq=>
    rw[hh]at q
    dsimp only at q ⊢
    intro H2 R2 hd2 f2
    have lq:=zao hh
    refine⟨_,rfl,?_⟩
    refine⟨_,rfl,rd,dx,_,rfl,R2.ob,rfl,rd,dx,lt,ls,ras,all,n1+1,_,sts1,"-",rfl,R2,zqj,?_⟩
    rw[hd2]
    cases hm:eat "-" qq with
    |some z=>
     rw[hm]at q
     dsimp only at q ⊢
     intro H3 R3 hd3 f3
     have lz0:=zao hm
     refine⟨_,rfl,1,rfl,?_⟩
     refine⟨_,rfl,rd,dx,_,rfl,R3.ob,rfl,rd,dx,lt,ls,ras,all,(n1+1+1),_,sts1,rfl,R3,λt r hdt hk H4 R4 f4=>?_,λhno=>?_⟩
     ·rw[hd3]at hdt
      rw[hdt]at q
      have ft:=R3.fine t (qey (by rw[hd3,hdt];simp))
      have lz:z.length=r.length+1:=by rw[hdt];rfl
      refine⟨_,rfl,S t.text,rfl,by rw[zdu];have:=ft.len;exact big (by lia),rfl,_,rfl,?_⟩
      rw[zdu,show (1:Int)=((1:Nat):Int) from rfl,ztd]
      cases hl1:(t.text.length == 1) with
      |false=>
       have hl:¬t.text.length=1:=by simpa using hl1
       have:power (t::r)=none:=by simp only[power];rw[if_neg (λz=>hl z.2.1)]
       rw[this]at q
       exact q
      |true=>
       have hl:t.text.length=1:=by simpa using hl1
       refine⟨_,rfl,rfl,_,rfl,?_⟩
       rw[show ("0":Str)=S [48] by decide +kernel,zh0]
       by_cases h48:t.text=[48]
       ·rw[decide_eq_true h48]
        have:power (t::r)=none:=by simp only[power];rw[if_neg (λz=>z.2.2 h48)]
        rw[this]at q
        exact q
       ·rw[decide_eq_false h48]
        obtain⟨c,hc⟩:∃c,t.text=[c]:=by
         cases ht:t.text with
         |nil=>rw[ht]at hl;cases hl
         |cons c l=>rw[ht]at hl;cases l with
          |nil=>exact⟨c,rfl⟩
          |cons _ _=>simp at hl
        have hcd:=ft.num hk c (by rw[hc];simp)
        have hcr:49<=c/\c<=57:=by
         have h9:c≠48:=λz=>h48 (by rw[hc,z])
         have hdg:Kp169.digit c=true:=by
          rcases ft.ok with ⟨z,_⟩|⟨_,u,hu,hdu⟩|⟨z,_⟩
          ·lia
          ·rw[hc]at hu;simp at hu;rw[hu];exact hdu
          ·lia
         unfold Kp169.digit at hdg
         simp only[qev,decide_eq_true_eq]at hdg
         lia
        have hpw:power (t::r)=some (c - 48,r):=by
         simp only[power];rw[if_pos ⟨hk,hl,h48⟩,hc];rfl
        rw[hpw]at q
        dsimp only[qez]at q
        rw[hc]
        refine⟨_,rfl,rd,dx,_,rfl,R4.ob,rfl,_,rfl,_,rfl,S [c],_,rfl,zpu c hcr.1 hcr.2,by rw[zdu];show 1<=640;decide,_,_,rfl,rfl,.inl ⟨by decide,by decide⟩,?_⟩
        refine⟨rd,dx,lt,ls,ras,all,(n1+1+1)+1,_,sts1,.pw ((-1)*((c:Int) - 48)),rfl,R4,?_,λH5 sts5 R5 f5=>?_⟩
        ·rw[qee];lia
        refine q H5 ((n1+1+1)+1) sts5 ?_ (by rw[zbo,hd3,hdt];rfl) λc o h a1 a2=>f5 _ _ (f4 _ _ (f3 _ _ (f2 _ _ (f1 _ _ h a1 a2) a1) a1) a1) a2
        simp only[za5]
        rw[<-qfc]
        have ek:(-1)*((c:Int) - 48)=-((c - 48:Nat):Int):=by lia
        rw[ek]at R5
        exact R5
     ·have:power z=none:=by
       cases hzz:z with
       |nil=>rfl
       |cons t r=>simp only[power];rw[if_neg (λz=>hno t r (by rw[hd3,hzz]) z.1)]
      rw[this]at q
      exact q
    |none=>
     rw[hm]at q
     dsimp only at q ⊢
     have R3:=R2
     have hd3:=hd2
     refine⟨_,rfl,?_⟩
     refine⟨_,rfl,rd,dx,_,rfl,R3.ob,rfl,rd,dx,lt,ls,ras,all,(n1+1),_,sts1,rfl,R3,λt r hdt hk H4 R4 f4=>?_,λhno=>?_⟩
     ·rw[hd3]at hdt
      rw[hdt]at q
      have ft:=R3.fine t (qey (by rw[hd3,hdt];simp))
      have lz:qq.length=r.length+1:=by rw[hdt];rfl
      refine⟨_,rfl,S t.text,rfl,by rw[zdu];have:=ft.len;exact big (by lia),rfl,_,rfl,?_⟩
      rw[zdu,show (1:Int)=((1:Nat):Int) from rfl,ztd]
      cases hl1:(t.text.length == 1) with
      |false=>
       have hl:¬t.text.length=1:=by simpa using hl1
       have:power (t::r)=none:=by simp only[power];rw[if_neg (λz=>hl z.2.1)]
       rw[this]at q
       exact q
      |true=>
       have hl:t.text.length=1:=by simpa using hl1
       refine⟨_,rfl,rfl,_,rfl,?_⟩
       rw[show ("0":Str)=S [48] by decide +kernel,zh0]
       by_cases h48:t.text=[48]
       ·rw[decide_eq_true h48]
        have:power (t::r)=none:=by simp only[power];rw[if_neg (λz=>z.2.2 h48)]
        rw[this]at q
        exact q
       ·rw[decide_eq_false h48]
        obtain⟨c,hc⟩:∃c,t.text=[c]:=by
         cases ht:t.text with
         |nil=>rw[ht]at hl;cases hl
         |cons c l=>rw[ht]at hl;cases l with
          |nil=>exact⟨c,rfl⟩
          |cons _ _=>simp at hl
        have hcd:=ft.num hk c (by rw[hc];simp)
        have hcr:49<=c/\c<=57:=by
         have h9:c≠48:=λz=>h48 (by rw[hc,z])
         have hdg:Kp169.digit c=true:=by
          rcases ft.ok with ⟨z,_⟩|⟨_,u,hu,hdu⟩|⟨z,_⟩
          ·lia
          ·rw[hc]at hu;simp at hu;rw[hu];exact hdu
          ·lia
         unfold Kp169.digit at hdg
         simp only[qev,decide_eq_true_eq]at hdg
         lia
        have hpw:power (t::r)=some (c - 48,r):=by
         simp only[power];rw[if_pos ⟨hk,hl,h48⟩,hc];rfl
        rw[hpw]at q
        dsimp only[qez]at q
        rw[hc]
        refine⟨_,rfl,rd,dx,_,rfl,R4.ob,rfl,_,rfl,_,rfl,S [c],_,rfl,zpu c hcr.1 hcr.2,by rw[zdu];show 1<=640;decide,_,_,rfl,rfl,.inl ⟨by decide,by decide⟩,?_⟩
        refine⟨rd,dx,lt,ls,ras,all,(n1+1)+1,_,sts1,.pw (1*((c:Int) - 48)),rfl,R4,?_,λH5 sts5 R5 f5=>?_⟩
        ·rw[qee];lia
        refine q H5 ((n1+1)+1) sts5 ?_ (by rw[zbo,hd3,hdt];rfl) λc o h a1 a2=>f5 _ _ (f4 _ _ (f2 _ _ (f1 _ _ h a1 a2) a1) a1) a2
        simp only[za5]
        rw[<-qfc]
        have ek:1*((c:Int) - 48)=((c - 48:Nat):Int):=by lia
        rw[ek]at R5
        exact R5
     ·have:power qq=none:=by
       cases hzz:qq with
       |nil=>rfl
       |cons t r=>simp only[power];rw[if_neg (λz=>hno t r (by rw[hd3,hzz]) z.1)]
      rw[this]at q
      exact q
end
theorem signsV:([V.str "*",V.str "/"]:List V)=zby [bytesOf "*",bytesOf "/"]:=by decide +kernel
section
variable{P:Program}{w:World}{K:qed}{mg:Str->Option Value}{base:Heap}{ad:Ad}
theorem qda(T:Txt K mg ad)(d j:Nat)(hj:4<=j){spP:Sp}(OP:OkM P w K mg base j ad.Reader "read_power" ["self","depth"] spP)(hP:∀vs H Q E,spG K ad d 2 pPower vs H Q E->spP vs H Q E) :
  OkM P w K mg base (j+1) ad.Reader "read_term" ["self","depth"] (spG K ad d 3 pTerm):=by
 have O1:=znk (P:=P) (w:=w) (base:=base) T
 have O3:=zjh (P:=P) (w:=w) (base:=base) T
 have O4:=zmv (P:=P) (w:=w) (base:=base) T
 refine T.m_Reader_read_term.ok T.l_Reader c_Reader_read_term (λvs H Q E h=>?_) (λf cdv A outer s H vs Q E hr h=>?_)
 ·obtain⟨rd,dx,lt,ls,ras,all,n,xs,sts,f,rfl,_⟩:=h
  rfl
 ·obtain⟨rd,dx,lt,ls,ras,all,n,xs,sts,f,rfl,R,hx,hf,q⟩:=h
  have h4:Room 4 _:=hr.mono hj
  have h1:Room 1 _:=hr.mono (by lia:1<=j)
  obtain⟨g,rfl,hg⟩:=zfm hf
  rw[zz4]at q
  refine⟨_,zac (zal (cM OP hr zab (pv 0) (zaa (pv 1) zae)))
   (zaf (zd0 zbl (zas zkh (cM0 O3 h1 zab (pv 0)) (zkd (zaa zam (zaa zam zae))) rfl)
    (zac (zap (i:=2) c_Reader_read_term.nd rfl (Or.inl rfl) (cM O1 h4 zab (pv 0) (zaa (cM0 O3 h1 zab (pv 0)) zae)))
    (zac (zal (cM OP hr zab (pv 0) (zaa (pv 1) zae)))
    (zaf (zal (cM O4 h1 zab (pv 0) (zaa (pv 2) (zaa zam (zaa zan zae)))))))))),?_⟩
  refine⟨_,rfl,rd,dx,_,rfl,R.ob,rfl,_,rfl,hP _ _ _ _ ⟨rd,dx,lt,ls,ras,all,n,xs,sts,g,rfl,R,hx,hg,?_⟩⟩
  by_cases hd32:32<d
  ·rw[if_pos hd32]at q ⊢
   exact q
  rw[if_neg hd32]at q ⊢
  cases hp:pPower g d (all.drop n) with
  |none=>rw[hp]at q;exact q
  |some a0=>
   rw[hp]at q
   dsimp only at q ⊢
   intro H1 n1 sts1 R1 hd1 f1
   have G:=((gd g).power _ _ _ _ R.in1 hp).len
   have gs:=(shr g).power _ _ _ _ hp
   refine⟨λm σ H'=>∃(n':Nat)(sts':List Addr)(a:KE)(f':Nat)(v2:Option V),σ=[some (.ref rd),some (.int d),v2]/\RAt ad H' rd dx lt ls ras all n' (xs++za5 a) sts'/\F2 H H' rd ls/\(xs++za5 a).length+(all.drop n').length<=20000/\16*(all.drop n').length+8<=f' ∧
     (match pTermRest f' d a (all.drop n') with
      |none=>zaw K ad.R E (-71) 0
      |some p=>∀H'' n'' sts'',RAt ad H'' rd dx lt ls ras all n'' (xs++za5 p.1) sts''->all.drop n''=p.2->F2 H H'' rd ls->Q .non H'')/\m=(all.drop n').length,⟨_,n1,sts1,a0.1,g,none,rfl,R1,f1,by rw[hd1,qee];lia,by rw[hd1];lia,by rw[hd1];exact q,rfl⟩,?_⟩
   rintro m σ H2 ⟨n2,sts2,a2',f2,v2,rfl,R2,F2',hx2,hf2,q2,rfl⟩
   refine⟨_,rfl,rd,dx,_,rfl,R2.ob,rfl,rd,dx,lt,ls,ras,all,n2,_,sts2,rfl,R2,(by show 2<=sizeLine;decide),λp np=>?_⟩
   refine⟨p,_,rfl,.inr (.inl (.inl zad)),rfl,by decide +kernel,_,rfl,?_⟩
   have sP:=zaj (o:=HO.tup [V.str "*",V.str "/"]) np
   have R3:=R2.toSame sP
   show if inV (.str (S (zb1 (all.drop n2)))) [V.str "*",V.str "/"]=true then _ else _
   rw[signsV,zhq]
   cases hE1:eat "*" (all.drop n2) with
   |some r=>
      have lr:=zao hE1
      have hah:zb1 (all.drop n2)=bytesOf "*":=by
       have:=zfo (w:="*") R2.oks w_star
       rw[hE1]at this
       by_cases z:zb1 (all.drop n2)=bytesOf "*"
       ·exact z
       ·rw[if_neg z]at this;cases this
      obtain⟨f2',rfl,hf2'⟩:=zfm hf2
      rw[zfe]at q2
      rw[hE1]at q2
      dsimp only at q2
      rw[hah]
      rw[show ([bytesOf "*",bytesOf "/"]:List Bytes).contains (bytesOf "*")=true by decide]
      refine⟨λσ' H'=>∃(n':Nat)(sts':List Addr)(a:KE)(f':Nat)(v2:Option V),σ'=[some (.ref rd),some (.int d),v2]/\RAt ad H' rd dx lt ls ras all n' (xs++za5 a) sts'/\F2 H H' rd ls/\(xs++za5 a).length+(all.drop n').length<=20000/\16*(all.drop n').length+8<=f' ∧
       (match pTermRest f' d a (all.drop n') with
        |none=>zaw K ad.R E (-71) 0
        |some p=>∀H'' n'' sts'',RAt ad H'' rd dx lt ls ras all n'' (xs++za5 p.1) sts''->all.drop n''=p.2->F2 H H'' rd ls->Q .non H'')/\(all.drop n').length<(all.drop n2).length,
       λσ' H' ⟨n',sts',a,f',v2,a1,a2,a3,a4,a5,a6,a7⟩=>⟨_,a7,n',sts',a,f',v2,a1,a2,a3,a4,a5,a6,rfl⟩,?_⟩
      refine⟨_,rfl,rd,dx,_,rfl,R3.ob,rfl,_,rfl,rd,dx,_,rfl,R3.ob,rfl,rd,dx,lt,ls,ras,all,n2,_,sts2,rfl,R3,rd,dx,lt,ls,ras,all,n2,_,sts2,_,zb1 (all.drop n2),rfl,R3,rfl,by rw[hah];exact w_star.p.2.2,λ_ H4 t r' hdt R4 f4=>?_,λz=>absurd rfl z⟩
      have hr':r'=r:=by
       have:=zye hE1
       rw[hdt]at this
       exact this.symm
      subst hr'
      have htt:S t.text=("*":Str):=by
       have hi:isTok "*" (t::r')=true:=by
        have:=hE1
        rw[hdt,zba]at this
        cases e:isTok "*" (t::r') with
        |true=>rfl
        |false=>rw[e]at this;simp at this
       rw[zf3 hi];exact w_star.s.symm
      rw[htt]
      have hd4:all.drop (n2+1)=r':=by rw[zbo,hdt];rfl
      refine⟨_,rfl,rd,dx,_,rfl,R4.ob,rfl,_,rfl,hP _ _ _ _ ⟨rd,dx,lt,ls,ras,all,n2+1,_,sts2,f2',rfl,R4,by rw[hd4];lia,by rw[hd4];lia,?_⟩⟩
      rw[if_neg hd32,hd4]
      cases hp2:pPower f2' d r' with
      |none=>rw[hp2]at q2;exact q2
      |some b=>
       rw[hp2]at q2
       dsimp only at q2 ⊢
       intro H5 n5 sts5 R5 hd5 f5
       have G2:=((gd f2').power _ _ _ _ (by have:=R4.in1;rw[hd4]at this;exact this) hp2).len
       have gs2:=(shr f2').power _ _ _ _ hp2
       refine⟨_,rfl,rd,dx,_,rfl,R5.ob,rfl,_,rfl,rd,dx,lt,ls,ras,all,n5,_,sts5,.times,rfl,R5,by rw[qee];lia,λH6 sts6 R6 f6=>?_⟩
       have ecomp:xs++za5 (.bin 42 a2' b.1)=xs++za5 a2'++za5 b.1++[.times]:=by simp[za5]
       refine⟨n5,sts6,.bin 42 a2' b.1,f2',_,rfl,by rw[ecomp];exact R6,λc o h a1 a2=>f6 _ _ (f5 _ _ (f4 _ _ (sP _ _ (F2' _ _ h a1 a2)) a1) a1 a2) a2,?_,by rw[hd5];lia,by rw[hd5];exact q2,by rw[hd5];lia⟩
       rw[hd5,ecomp]
       simp only[qee,qeg,qe8]at hx2 ⊢
       lia
   |none=>
    have hn1:=hE1
    cases hE1:eat "/" (all.drop n2) with
    |some r=>
      have lr:=zao hE1
      have hah:zb1 (all.drop n2)=bytesOf "/":=by
       have:=zfo (w:="/") R2.oks w_over
       rw[hE1]at this
       by_cases z:zb1 (all.drop n2)=bytesOf "/"
       ·exact z
       ·rw[if_neg z]at this;cases this
      obtain⟨f2',rfl,hf2'⟩:=zfm hf2
      rw[zfe]at q2
      rw[hn1]at q2
      dsimp only at q2
      rw[hE1]at q2
      dsimp only at q2
      rw[hah]
      rw[show ([bytesOf "*",bytesOf "/"]:List Bytes).contains (bytesOf "/")=true by decide]
      refine⟨λσ' H'=>∃(n':Nat)(sts':List Addr)(a:KE)(f':Nat)(v2:Option V),σ'=[some (.ref rd),some (.int d),v2]/\RAt ad H' rd dx lt ls ras all n' (xs++za5 a) sts'/\F2 H H' rd ls/\(xs++za5 a).length+(all.drop n').length<=20000/\16*(all.drop n').length+8<=f' ∧
       (match pTermRest f' d a (all.drop n') with
        |none=>zaw K ad.R E (-71) 0
        |some p=>∀H'' n'' sts'',RAt ad H'' rd dx lt ls ras all n'' (xs++za5 p.1) sts''->all.drop n''=p.2->F2 H H'' rd ls->Q .non H'')/\(all.drop n').length<(all.drop n2).length,
       λσ' H' ⟨n',sts',a,f',v2,a1,a2,a3,a4,a5,a6,a7⟩=>⟨_,a7,n',sts',a,f',v2,a1,a2,a3,a4,a5,a6,rfl⟩,?_⟩
      refine⟨_,rfl,rd,dx,_,rfl,R3.ob,rfl,_,rfl,rd,dx,_,rfl,R3.ob,rfl,rd,dx,lt,ls,ras,all,n2,_,sts2,rfl,R3,rd,dx,lt,ls,ras,all,n2,_,sts2,_,zb1 (all.drop n2),rfl,R3,rfl,by rw[hah];exact w_over.p.2.2,λ_ H4 t r' hdt R4 f4=>?_,λz=>absurd rfl z⟩
      have hr':r'=r:=by
       have:=zye hE1
       rw[hdt]at this
       exact this.symm
      subst hr'
      have htt:S t.text=("/":Str):=by
       have hi:isTok "/" (t::r')=true:=by
        have:=hE1
        rw[hdt,zba]at this
        cases e:isTok "/" (t::r') with
        |true=>rfl
        |false=>rw[e]at this;simp at this
       rw[zf3 hi];exact w_over.s.symm
      rw[htt]
      have hd4:all.drop (n2+1)=r':=by rw[zbo,hdt];rfl
      refine⟨_,rfl,rd,dx,_,rfl,R4.ob,rfl,_,rfl,hP _ _ _ _ ⟨rd,dx,lt,ls,ras,all,n2+1,_,sts2,f2',rfl,R4,by rw[hd4];lia,by rw[hd4];lia,?_⟩⟩
      rw[if_neg hd32,hd4]
      cases hp2:pPower f2' d r' with
      |none=>rw[hp2]at q2;exact q2
      |some b=>
       rw[hp2]at q2
       dsimp only at q2 ⊢
       intro H5 n5 sts5 R5 hd5 f5
       have G2:=((gd f2').power _ _ _ _ (by have:=R4.in1;rw[hd4]at this;exact this) hp2).len
       have gs2:=(shr f2').power _ _ _ _ hp2
       refine⟨_,rfl,rd,dx,_,rfl,R5.ob,rfl,_,rfl,rd,dx,lt,ls,ras,all,n5,_,sts5,.over,rfl,R5,by rw[qee];lia,λH6 sts6 R6 f6=>?_⟩
       have ecomp:xs++za5 (.bin 47 a2' b.1)=xs++za5 a2'++za5 b.1++[.over]:=by simp[za5]
       refine⟨n5,sts6,.bin 47 a2' b.1,f2',_,rfl,by rw[ecomp];exact R6,λc o h a1 a2=>f6 _ _ (f5 _ _ (f4 _ _ (sP _ _ (F2' _ _ h a1 a2)) a1) a1 a2) a2,?_,by rw[hd5];lia,by rw[hd5];exact q2,by rw[hd5];lia⟩
       rw[hd5,ecomp]
       simp only[qee,qeg,qe8]at hx2 ⊢
       lia
    |none=>
     have hnone:([bytesOf "*",bytesOf "/"]:List Bytes).contains (zb1 (all.drop n2))=false:=by
      have e1:=zfo (w:="*") R2.oks w_star
      have e2:=zfo (w:="/") R2.oks w_over
      rw[hn1]at e1
      rw[hE1]at e2
      have z1:¬zb1 (all.drop n2)=bytesOf "*":=λz=>by rw[if_pos z]at e1;cases e1
      have z2:¬zb1 (all.drop n2)=bytesOf "/":=λz=>by rw[if_pos z]at e2;cases e2
      rw[qfv,qfv,List.contains_nil,beq_false_of_ne z1,beq_false_of_ne z2]
      rfl
     rw[hnone]
     obtain⟨f2',rfl,hf2'⟩:=zfm hf2
     rw[zfe,hn1,hE1]at q2
     exact q2 _ n2 sts2 R3 rfl λc o h a1 a2=>sP _ _ (F2' _ _ h a1 a2)
theorem ok_sum(T:Txt K mg ad)(d j:Nat)(hj:4<=j){spT:Sp}(OT:OkM P w K mg base j ad.Reader "read_term" ["self","depth"] spT)(hT:∀vs H Q E,spG K ad d 3 pTerm vs H Q E->spT vs H Q E) :
  OkM P w K mg base (j+1) ad.Reader "read_sum" ["self","depth"] (spG K ad d 4 pSum):=by
 have O2:=zd1 (P:=P) (w:=w) (base:=base) T
 have O4:=zmv (P:=P) (w:=w) (base:=base) T
 refine T.m_Reader_read_sum.ok T.l_Reader zil (λvs H Q E h=>?_) (λf cdv A outer s H vs Q E hr h=>?_)
 ·obtain⟨rd,dx,lt,ls,ras,all,n,xs,sts,f,rfl,_⟩:=h
  rfl
 ·obtain⟨rd,dx,lt,ls,ras,all,n,xs,sts,f,rfl,R,hx,hf,q⟩:=h
  have h2:Room 2 _:=hr.mono (by lia:2<=j)
  have h1:Room 1 _:=hr.mono (by lia:1<=j)
  obtain⟨g,rfl,hg⟩:=zfm hf
  rw[qc7]at q
  refine⟨_,zac (zal (cM OT hr zab (pv 0) (zaa (pv 1) zae)))
   (zaf (zd0 zbl (PW.pt (zwh (zce (cM O2 h2 zab (pv 0) (zaa zam zae))) (zso (zce (cM O2 h2 zab (pv 0) (zaa zam zae))))))
    (zac (zal (cM OT hr zab (pv 0) (zaa (pv 1) zae)))
    (zaf (zal (cM O4 h1 zab (pv 0) (zaa zam (zaa zam (zaa zan zae))))))))),?_⟩
  refine⟨_,rfl,rd,dx,_,rfl,R.ob,rfl,_,rfl,hT _ _ _ _ ⟨rd,dx,lt,ls,ras,all,n,xs,sts,g,rfl,R,hx,hg,?_⟩⟩
  by_cases hd32:32<d
  ·rw[if_pos hd32]at q ⊢
   exact q
  rw[if_neg hd32]at q ⊢
  cases hp:pTerm g d (all.drop n) with
  |none=>rw[hp]at q;exact q
  |some a0=>
   rw[hp]at q
   dsimp only at q ⊢
   intro H1 n1 sts1 R1 hd1 f1
   have G:=((gd g).term _ _ _ _ R.in1 hp).len
   have gs:=(shr g).term _ _ _ _ hp
   refine⟨λm σ H'=>∃(n':Nat)(sts':List Addr)(a:KE)(f':Nat),σ=[some (.ref rd),some (.int d)]/\RAt ad H' rd dx lt ls ras all n' (xs++za5 a) sts'/\F2 H H' rd ls/\(xs++za5 a).length+(all.drop n').length<=20000/\16*(all.drop n').length+8<=f' ∧
     (match pSumRest f' d a (all.drop n') with
      |none=>zaw K ad.R E (-71) 0
      |some p=>∀H'' n'' sts'',RAt ad H'' rd dx lt ls ras all n'' (xs++za5 p.1) sts''->all.drop n''=p.2->F2 H H'' rd ls->Q .non H'')/\m=(all.drop n').length,⟨_,n1,sts1,a0.1,g,rfl,R1,f1,by rw[hd1,qee];lia,by rw[hd1];lia,by rw[hd1];exact q,rfl⟩,?_⟩
   rintro m σ H2 ⟨n2,sts2,a2',f2,rfl,R2,F2',hx2,hf2,q2,rfl⟩
   refine⟨_,rfl,rd,dx,_,rfl,R2.ob,rfl,rd,dx,lt,ls,ras,all,n2,_,sts2,"+",rfl,R2,w_plus,?_⟩
   cases hE1:eat "+" (all.drop n2) with
   |some r=>
    dsimp only
    intro H3 R3 hd3 f3
    have lr:=zao hE1
    refine⟨_,rfl,?_⟩
    obtain⟨f2',rfl,hf2'⟩:=zfm hf2
    rw[zgp]at q2
    rw[hE1]at q2
    dsimp only at q2
    refine⟨λσ' H'=>∃(n':Nat)(sts':List Addr)(a:KE)(f':Nat),σ'=[some (.ref rd),some (.int d)]/\RAt ad H' rd dx lt ls ras all n' (xs++za5 a) sts'/\F2 H H' rd ls/\(xs++za5 a).length+(all.drop n').length<=20000/\16*(all.drop n').length+8<=f' ∧
     (match pSumRest f' d a (all.drop n') with
      |none=>zaw K ad.R E (-71) 0
      |some p=>∀H'' n'' sts'',RAt ad H'' rd dx lt ls ras all n'' (xs++za5 p.1) sts''->all.drop n''=p.2->F2 H H'' rd ls->Q .non H'')/\(all.drop n').length<(all.drop n2).length,
     λσ' H' ⟨n',sts',a,f',a1,a2,a3,a4,a5,a6,a7⟩=>⟨_,a7,n',sts',a,f',a1,a2,a3,a4,a5,a6,rfl⟩,?_⟩
    refine⟨_,rfl,rd,dx,_,rfl,R3.ob,rfl,_,rfl,hT _ _ _ _ ⟨rd,dx,lt,ls,ras,all,n2+1,_,sts2,f2',rfl,R3,by rw[hd3];lia,by rw[hd3];lia,?_⟩⟩
    rw[if_neg hd32,hd3]
    cases hp2:pTerm f2' d r with
    |none=>rw[hp2]at q2;exact q2
    |some b=>
     rw[hp2]at q2
     dsimp only at q2 ⊢
     intro H5 n5 sts5 R5 hd5 f5
     have G2:=((gd f2').term _ _ _ _ (by have:=R3.in1;rw[hd3]at this;exact this) hp2).len
     have gs2:=(shr f2').term _ _ _ _ hp2
     refine⟨_,rfl,rd,dx,_,rfl,R5.ob,rfl,rd,dx,lt,ls,ras,all,n5,_,sts5,.alike,rfl,R5,by rw[qee];lia,λH6 sts6 R6 f6=>?_⟩
     have ecomp:xs++za5 (.bin 43 a2' b.1)=xs++za5 a2'++za5 b.1++[.alike]:=by simp[za5]
     refine⟨n5,sts6,.bin 43 a2' b.1,f2',rfl,by rw[ecomp];exact R6,λc o h a1 a2=>f6 _ _ (f5 _ _ (f3 _ _ (F2' _ _ h a1 a2) a1) a1 a2) a2,?_,by rw[hd5];lia,by rw[hd5];exact q2,by rw[hd5];lia⟩
     rw[hd5,ecomp]
     simp only[qee,qeg,qe8]at hx2 ⊢
     lia
   |none=>
    have hn1:=hE1
    refine⟨_,rfl,?_⟩
    refine⟨_,rfl,rd,dx,_,rfl,R2.ob,rfl,rd,dx,lt,ls,ras,all,n2,_,sts2,"-",rfl,R2,zqj,?_⟩
    cases hE1:eat "-" (all.drop n2) with
    |some r=>
     dsimp only
     intro H3 R3 hd3 f3
     have lr:=zao hE1
     refine⟨_,rfl,?_⟩
     obtain⟨f2',rfl,hf2'⟩:=zfm hf2
     rw[zgp]at q2
     rw[hn1]at q2
     dsimp only at q2
     rw[hE1]at q2
     dsimp only at q2
     refine⟨λσ' H'=>∃(n':Nat)(sts':List Addr)(a:KE)(f':Nat),σ'=[some (.ref rd),some (.int d)]/\RAt ad H' rd dx lt ls ras all n' (xs++za5 a) sts'/\F2 H H' rd ls/\(xs++za5 a).length+(all.drop n').length<=20000/\16*(all.drop n').length+8<=f' ∧
      (match pSumRest f' d a (all.drop n') with
       |none=>zaw K ad.R E (-71) 0
       |some p=>∀H'' n'' sts'',RAt ad H'' rd dx lt ls ras all n'' (xs++za5 p.1) sts''->all.drop n''=p.2->F2 H H'' rd ls->Q .non H'')/\(all.drop n').length<(all.drop n2).length,
      λσ' H' ⟨n',sts',a,f',a1,a2,a3,a4,a5,a6,a7⟩=>⟨_,a7,n',sts',a,f',a1,a2,a3,a4,a5,a6,rfl⟩,?_⟩
     refine⟨_,rfl,rd,dx,_,rfl,R3.ob,rfl,_,rfl,hT _ _ _ _ ⟨rd,dx,lt,ls,ras,all,n2+1,_,sts2,f2',rfl,R3,by rw[hd3];lia,by rw[hd3];lia,?_⟩⟩
     rw[if_neg hd32,hd3]
     cases hp2:pTerm f2' d r with
     |none=>rw[hp2]at q2;exact q2
     |some b=>
      rw[hp2]at q2
      dsimp only at q2 ⊢
      intro H5 n5 sts5 R5 hd5 f5
      have G2:=((gd f2').term _ _ _ _ (by have:=R3.in1;rw[hd3]at this;exact this) hp2).len
      have gs2:=(shr f2').term _ _ _ _ hp2
      refine⟨_,rfl,rd,dx,_,rfl,R5.ob,rfl,rd,dx,lt,ls,ras,all,n5,_,sts5,.alike,rfl,R5,by rw[qee];lia,λH6 sts6 R6 f6=>?_⟩
      have ecomp:xs++za5 (.bin 45 a2' b.1)=xs++za5 a2'++za5 b.1++[.alike]:=by simp[za5]
      refine⟨n5,sts6,.bin 45 a2' b.1,f2',rfl,by rw[ecomp];exact R6,λc o h a1 a2=>f6 _ _ (f5 _ _ (f3 _ _ (F2' _ _ h a1 a2) a1) a1 a2) a2,?_,by rw[hd5];lia,by rw[hd5];exact q2,by rw[hd5];lia⟩
      rw[hd5,ecomp]
      simp only[qee,qeg,qe8]at hx2 ⊢
      lia
    |none=>
     refine⟨_,rfl,?_⟩
     obtain⟨f2',rfl,hf2'⟩:=zfm hf2
     rw[zgp,hn1,hE1]at q2
     exact q2 _ n2 sts2 R2 rfl F2'
theorem qdk(T:Txt K mg ad)(d j:Nat)(hj:4<=j){spS spE:Sp}(OS:OkM P w K mg base j ad.Reader "read_sum" ["self","depth"] spS)(OE:OkM P w K mg base j ad.Reader "read_expression" ["self","depth"] spE)(hS:∀vs H Q E,spG K ad d 4 pSum vs H Q E->spS vs H Q E)(hE:d<=32->∀vs H Q E,spG K ad (d+1) 5 pExpr vs H Q E->spE vs H Q E) :
  OkM P w K mg base (j+1) ad.Reader "read_expression" ["self","depth"] (spG K ad d 5 pExpr):=by
 have O1:=zmw (P:=P) (w:=w) (base:=base) T
 have O2:=zd1 (P:=P) (w:=w) (base:=base) T
 have O4:=zmv (P:=P) (w:=w) (base:=base) T
 refine T.m_Reader_read_expression.ok T.l_Reader zcg (λvs H Q E h=>?_) (λf cdv A outer s H vs Q E hr h=>?_)
 ·obtain⟨rd,dx,lt,ls,ras,all,n,xs,sts,f,rfl,_⟩:=h
  rfl
 ·obtain⟨rd,dx,lt,ls,ras,all,n,xs,sts,f,rfl,R,hx,hf,q⟩:=h
  have h4:Room 4 _:=hr.mono hj
  have h2:Room 2 _:=hr.mono (by lia:2<=j)
  have h1:Room 1 _:=hr.mono (by lia:1<=j)
  obtain⟨g,rfl,hg⟩:=zfm hf
  rw[zsw]at q
  refine⟨_,zac (za9 (zmn (zce (cM O2 h2 zab (pv 0) (zaa zam zae)))) (zac (zal (cM OS hr zab (pv 0) (zaa (pv 1) zae))) (zaf zwj)) zau)
   (zac (zal (cM OS hr zab (pv 0) (zaa (pv 1) zae)))
   (zac (zal (cM O1 h4 zab (pv 0) (zaa zam zae)))
   (zac (zal (cM OS hr zab (pv 0) (zaa (pv 1) zae)))
   (zac (zal (cM O4 h1 zab (pv 0) (zaa zam (zaa zam (zaa zan zae)))))
   (zac (zal (cM O1 h4 zab (pv 0) (zaa zam zae)))
   (zac (zal (cM OE hr zab (pv 0) (zaa (zbc zb7 (pv 1) zan) zae)))
   (zac (zal (cM O1 h4 zab (pv 0) (zaa zam zae)))
   (zac (zal (cM OE hr zab (pv 0) (zaa (zbc zb7 (pv 1) zan) zae)))
   (zaf (zal (cM O4 h1 zab (pv 0) (zaa zam (zaa zam (zaa zan zae)))))))))))))),?_⟩
  refine⟨_,rfl,rd,dx,_,rfl,R.ob,rfl,rd,dx,lt,ls,ras,all,n,xs,sts,"if",rfl,R,w_if,?_⟩
  cases hi:eat "if" (all.drop n) with
  |none=>
   dsimp only
   refine⟨_,rfl,?_⟩
   refine⟨_,rfl,rd,dx,_,rfl,R.ob,rfl,_,rfl,hS _ _ _ _ ⟨rd,dx,lt,ls,ras,all,n,xs,sts,g,rfl,R,hx,hg,?_⟩⟩
   by_cases hd32:32<d
   ·rw[if_pos hd32]at q ⊢
    exact q
   rw[if_neg hd32]at q ⊢
   rw[if_neg hd32,hi]at q
   dsimp only at q
   exact q
  |some r=>
   dsimp only
   intro H1 R1 hd1 f1
   have lr:=zao hi
   refine⟨_,rfl,?_⟩
   refine⟨_,rfl,rd,dx,_,rfl,R1.ob,rfl,_,rfl,hS _ _ _ _ ⟨rd,dx,lt,ls,ras,all,n+1,xs,sts,g,rfl,R1,by rw[hd1];lia,by rw[hd1];lia,?_⟩⟩
   by_cases hd32:32<d
   ·rw[if_pos hd32]at q ⊢
    exact q
   rw[if_neg hd32]at q ⊢
   rw[if_neg hd32,hi]at q
   dsimp only at q
   rw[hd1]
   cases ha:pSum g d r with
   |none=>rw[ha]at q;exact q
   |some a=>
    rw[ha]at q
    dsimp only at q ⊢
    intro H2 n2 sts2 R2 hd2 f2
    have G1:=((gd g).sum _ _ _ _ (by have:=R1.in1;rw[hd1]at this;exact this) ha).len
    refine⟨_,rfl,rd,dx,_,rfl,R2.ob,rfl,rd,dx,lt,ls,ras,all,n2,_,sts2,"<",rfl,R2,w_lt,?_⟩
    rw[hd2]
    cases hq:eat "<" a.2 with
    |none=>rw[hq]at q;exact q
    |some qq=>
     rw[hq]at q
     dsimp only at q ⊢
     intro H3 v3 R3 hd3 f3
     have lq:=zao hq
     refine⟨_,rfl,rd,dx,_,rfl,R3.ob,rfl,_,rfl,hS _ _ _ _ ⟨rd,dx,lt,ls,ras,all,n2+1,_,sts2,g,rfl,R3,by rw[hd3,qee];lia,by rw[hd3];lia,?_⟩⟩
     rw[if_neg hd32,hd3]
     cases hb:pSum g d qq with
     |none=>rw[hb]at q;exact q
     |some b=>
      rw[hb]at q
      dsimp only at q ⊢
      intro H4 n4 sts4 R4 hd4 f4
      have G2:=((gd g).sum _ _ _ _ (by have:=R3.in1;rw[hd3]at this;exact this) hb).len
      refine⟨_,rfl,rd,dx,_,rfl,R4.ob,rfl,rd,dx,lt,ls,ras,all,n4,_,sts4,.compare,rfl,R4,by rw[qee,qee];lia,λH5 sts5 R5 f5=>?_⟩
      refine⟨_,rfl,rd,dx,_,rfl,R5.ob,rfl,rd,dx,lt,ls,ras,all,n4,_,sts5,"then",rfl,R5,w_then,?_⟩
      rw[hd4]
      cases ht:eat "then" b.2 with
      |none=>rw[ht]at q;exact q
      |some tt=>
       rw[ht]at q
       dsimp only at q ⊢
       intro H6 v6 R6 hd6 f6
       have lt':=zao ht
       refine⟨_,rfl,rd,dx,_,rfl,R6.ob,rfl,_,rfl,zls (zev rfl rfl (n:=((d+1:Nat):Int)) (by lia) ?_)⟩
       refine hE (by lia) _ _ _ _ ⟨rd,dx,lt,ls,ras,all,n4+1,_,sts5,g,rfl,R6,by rw[hd6];simp only[qee,qeg,qe8];lia,by rw[hd6];lia,zfn ?_⟩
       rw[hd6]
       cases hxx:pExpr g (d+1) tt with
       |none=>rw[hxx]at q;exact q
       |some x=>
        rw[hxx]at q
        dsimp only at q ⊢
        intro H7 n7 sts7 R7 hd7 f7
        have G3:=((gd g).expr _ _ _ _ (by have:=R6.in1;rw[hd6]at this;exact this) hxx).len
        refine⟨_,rfl,rd,dx,_,rfl,R7.ob,rfl,rd,dx,lt,ls,ras,all,n7,_,sts7,"else",rfl,R7,w_else,?_⟩
        rw[hd7]
        cases hu:eat "else" x.2 with
        |none=>rw[hu]at q;exact q
        |some u=>
         rw[hu]at q
         dsimp only at q ⊢
         intro H8 v8 R8 hd8 f8
         have lu:=zao hu
         refine⟨_,rfl,rd,dx,_,rfl,R8.ob,rfl,_,rfl,zls (zev rfl rfl (n:=((d+1:Nat):Int)) (by lia) ?_)⟩
         refine hE (by lia) _ _ _ _ ⟨rd,dx,lt,ls,ras,all,n7+1,_,sts7,g,rfl,R8,by rw[hd8];simp only[qee,qeg,qe8];lia,by rw[hd8];lia,zfn ?_⟩
         rw[hd8]
         cases hy:pExpr g (d+1) u with
         |none=>rw[hy]at q;exact q
         |some y=>
          rw[hy]at q
          dsimp only at q ⊢
          intro H9 n9 sts9 R9 hd9 f9
          have G4:=((gd g).expr _ _ _ _ (by have:=R8.in1;rw[hd8]at this;exact this) hy).len
          refine⟨_,rfl,rd,dx,_,rfl,R9.ob,rfl,rd,dx,lt,ls,ras,all,n9,_,sts9,.alike,rfl,R9,by simp only[qee,qeg,qe8];lia,λH10 sts10 R10 f10=>?_⟩
          refine q H10 n9 sts10 ?_ hd9 λc o h a1 a2=>f10 _ _ (f9 _ _ (f8 _ _ (f7 _ _ (f6 _ _ (f5 _ _ (f4 _ _ (f3 _ _ (f2 _ _ (f1 _ _ h a1) a1 a2) a1) a1 a2) a2) a1) a1 a2) a1) a1 a2) a2
          have ecomp:xs++za5 (.ite a.1 b.1 x.1 y.1)=xs++za5 a.1++za5 b.1++[.compare]++za5 x.1++za5 y.1++[.alike]:=by simp[za5]
          rw[ecomp]
          exact R10
end
open Kp169 (Bytes isTok eat bytesOf number pExpr pSum pSumRest pTerm pTermRest pPower pFactor pArgs pMore power pNames pItem pItems sheetOf)
section
variable{P:Program}{w:World}{K:qed}{mg:Str->Option Value}{base:Heap}{ad:Ad}
theorem zxi(T:Txt K mg ad)(k:Nat):OkM P w K mg base (k+1) ad.Reader "read_expression" ["self","depth"] (λ_ _ _ _=>False):=
 T.m_Reader_read_expression.ok T.l_Reader zcg (λvs H Q E h=>h.elim) (λf cdv A outer s H vs Q E hr h=>h.elim)
theorem zxh(T:Txt K mg ad)(k:Nat):OkM P w K mg base (k+1) ad.Reader "read_factor" ["self","depth"] (λ_ _ _ _=>False):=
 T.m_Reader_read_factor.ok T.l_Reader zdb (λvs H Q E h=>h.elim) (λf cdv A outer s H vs Q E hr h=>h.elim)
theorem qdq(T:Txt K mg ad)(k:Nat):OkM P w K mg base (k+1) ad.Reader "read_name" ["self","depth"] (λ_ _ _ _=>False):=
 T.m_Reader_read_name.ok T.l_Reader c_Reader_read_name (λvs H Q E h=>h.elim) (λf cdv A outer s H vs Q E hr h=>h.elim)
theorem zsb(T:Txt K mg ad)(d j:Nat)(hj:6<=j)(OF:OkM P w K mg base j ad.Reader "read_factor" ["self","depth"] (spG K ad d 1 pFactor)){spE:Sp}(OE:OkM P w K mg base (j+3) ad.Reader "read_expression" ["self","depth"] spE)(hE:d<=32->∀vs H Q E,spG K ad (d+1) 5 pExpr vs H Q E->spE vs H Q E) :
  OkM P w K mg base (j+4) ad.Reader "read_expression" ["self","depth"] (spG K ad d 5 pExpr):=by
 have O1:=qae T d j (by lia) OF (λ_ _ _ _ h=>h)
 have O2:=qda T d (j+1) (by lia) O1 (λ_ _ _ _ h=>h)
 have O3:=ok_sum T d (j+2) (by lia) O2 (λ_ _ _ _ h=>h)
 exact qdk T d (j+3) (by lia) O3 OE (λ_ _ _ _ h=>h) hE
theorem qbr(T:Txt K mg ad):∀k d:Nat,d+k=33->OkM P w K mg base (6+7*k) ad.Reader "read_factor" ["self","depth"] (spG K ad d 1 pFactor)/\OkM P w K mg base (10+7*k) ad.Reader "read_expression" ["self","depth"] (spG K ad d 5 pExpr)
 |0,d,h=>by
  have hd:d=33:=by lia
  subst hd
  have F:=zo9 (P:=P) (w:=w) (base:=base) T 33 5 (by lia) (zxh T 4) (zxi T 4) (qdq T 4) (λh=>absurd h (by lia)) (λh=>absurd h (by lia)) (λh=>absurd h (by lia))
  exact⟨F,zsb T 33 6 (by lia) F (zxi T 8) (λh=>absurd h (by lia))⟩
 |k+1,d,h=>by
  obtain⟨F1,E1⟩:=qbr T k (d+1) (by lia)
  have A1:=qdl T (d+1) (10+7*k) (by lia) E1 (λ_ _ _ _ h=>h)
  have N1:=qdh T d (10+7*k+1) (by lia) A1 (λ_ _ _ _ h=>h)
  have F:=zo9 T d (10+7*k+1+1) (by lia) (F1.mono (by lia)) (E1.mono (by lia)) N1 (λ_ _ _ _ _ h=>h) (λ_ _ _ _ _ h=>h) (λh32 _ _ _ _ h=>⟨h32,h⟩)
  have F':OkM P w K mg base (6+7*(k+1)) ad.Reader "read_factor" ["self","depth"] (spG K ad d 1 pFactor):=F.mono (by lia)
  refine⟨F',?_⟩
  exact (zsb T d (6+7*(k+1)) (by lia) F' (E1.mono (by lia)) (λ_ _ _ _ _ h=>h)).mono (by lia)
theorem qak(T:Txt K mg ad):OkM P w K mg base 234 ad.Reader "read_expression" ["self","depth"] (spG K ad 1 5 pExpr):=(qbr T 32 1 rfl).2
end
def zb0(f:Nat)(ts:List zcu):Option (KE×List zcu):=match eat "=" ts with
 |none=>none
 |some q=>match pExpr f 1 q with
  |none=>none
  |some e=>match eat ";" e.2 with
   |none=>none
   |some z=>some (e.1,z)
def zff(f:Nat)(ts:List zcu):Option (List Bytes×List zcu):=match eat "(" ts with
 |none=>none
 |some o=>match eat ")" o with
  |some z=>some ([],z)
  |none=>pNames f o
def zoi(f:Nat)(ts:List zcu):Option (List Bytes×List zcu):=match eat "," ts with
 |some c=>pNames f c
 |none=>(eat ")" ts).map λz=>([],z)
theorem zhi(f:Nat)(ts:List zcu):pNames (f+1) ts=match Kp169.nameAt ts with
  |none=>none
  |some x=>(zoi f (ts.drop 1)).map λl=>(x::l.1,l.2):=by
 simp only[pNames,bind,pure]
 cases Kp169.nameAt ts with
 |none=>rfl
 |some x=>
  simp only[qe4]
  unfold zoi
  cases hc:eat "," (ts.drop 1) with
  |some c=>
   rw[ztk (w:=")") (by decide) hc]
   simp only[qe4]
   cases pNames f c <;> rfl
  |none=>
   cases eat ")" (ts.drop 1) <;> rfl
theorem zcf{ts:List zcu}{x:Bytes}(h:Kp169.nameAt ts=some x):(ts.drop 1).length+1=ts.length:=by
 cases ts with
 |nil=>simp[Kp169.nameAt]at h
 |cons t r=>simp
def zv2(K:qed)(ad:Ad):Sp:=λvs H Q E=>∃(rd dx lt ls:Addr)(ras:List Addr)(all:List zcu)(n:Nat)(xs:List Sx)(sts:List Addr)(f:Nat),vs=[.ref rd]/\RAt ad H rd dx lt ls ras all n xs sts ∧
 xs.length+(all.drop n).length<=20000/\16*(all.drop n).length+5<=f ∧
 match zb0 f (all.drop n) with
 |none=>zaw K ad.R E (-71) 0
 |some p=>∀H' n' sts',RAt ad H' rd dx lt ls ras all n' (xs++za5 p.1) sts'->all.drop n'=p.2->F2 H H' rd ls->Q .non H'
def zzo(K:qed)(ad:Ad):Sp:=λvs H Q E=>∃(rd dx lt ls:Addr)(ras:List Addr)(all:List zcu)(n:Nat)(xs:List Sx)(sts:List Addr)(f:Nat),vs=[.ref rd]/\RAt ad H rd dx lt ls ras all n xs sts ∧
 (all.drop n).length<=f ∧
 match zff f (all.drop n) with
 |none=>zaw K ad.R E (-71) 0
 |some p=>∀H' n' D,RAt ad H' rd dx lt ls ras all n' xs sts->all.drop n'=p.2->F1 H H' rd->H D=none->H' D=some (.lst (zby p.1))->Q (.ref D) H'
theorem RAt.side{ad:Ad}{H:Hp}{rd dx lt ls:Addr}{ras:List Addr}{all:List zcu}{n:Nat}{xs:List Sx}{sts:List Addr}{D:Addr}{l l':List V}(R:RAt ad H rd dx lt ls ras all n xs sts)(hD:H D=some (.lst l))(h1:lt≠D)(h2:ls≠D):RAt ad (upd H D (.lst l')) rd dx lt ls ras all n xs sts:=by
 have k:∀{c:Addr}{o:HO},H c=some o->(∀l,o≠.lst l)->upd H D (.lst l') c=some o:=λ{c o} e z=>by
  rw[zah (λy=>by subst y;rw[hD]at e;cases e;exact z _ rfl)];exact e
 exact⟨k R.ob (λ_ z=>nomatch z),by rw[zah h1];exact R.tk,R.ne,λj t h=>by obtain⟨a,g1,g2⟩:=R.tok j t h;exact⟨a,g1,k g2 (λ_ z=>nomatch z)⟩,by obtain⟨a,g1,g2⟩:=R.en;exact⟨a,g1,k g2 (λ_ z=>nomatch z)⟩,by rw[zah h2];exact R.st,Paired.mapP R.ps λ_ _ q=>k q (λ_ z=>nomatch z),R.le,R.fine,R.few⟩
theorem F1.free{H H':Hp}{a b:Addr}{o:HO}(f:F1 H H' a)(ha:H' a=some o)(hb:H' b=none):H b=none:=by
 cases e:H b with
 |none=>rfl
 |some u=>
  by_cases h:b=a
  ·subst h;rw[ha]at hb;cases hb
  ·rw[f b u e h]at hb;cases hb
section
variable{P:Program}{w:World}{K:qed}{mg:Str->Option Value}{base:Heap}{ad:Ad}
theorem zuk(T:Txt K mg ad):OkM P w K mg base 235 ad.Reader "read_meaning" ["self"] (zv2 K ad):=by
 have O1:=zmw (P:=P) (w:=w) (base:=base) T
 have O2:=qak (P:=P) (w:=w) (base:=base) T
 refine T.m_Reader_read_meaning.ok T.l_Reader zfq (λvs H Q E h=>?_) (λf cdv A outer s H vs Q E hr h=>?_)
 ·obtain⟨rd,dx,lt,ls,ras,all,n,xs,sts,f,rfl,_⟩:=h
  rfl
 ·obtain⟨rd,dx,lt,ls,ras,all,n,xs,sts,f,rfl,R,hx,hf,q⟩:=h
  have h4:Room 4 _:=hr.mono (by lia)
  unfold zb0 at q
  refine⟨_,zac (zal (cM O1 h4 zab (pv 0) (zaa zam zae)))
   (zac (zal (cM O2 hr zab (pv 0) (zaa zan zae)))
   (zaf (zal (cM O1 h4 zab (pv 0) (zaa zam zae))))),?_⟩
  refine⟨_,rfl,rd,dx,_,rfl,R.ob,rfl,rd,dx,lt,ls,ras,all,n,xs,sts,"=",rfl,R,w_eq,?_⟩
  cases he:eat "=" (all.drop n) with
  |none=>rw[he]at q;exact q
  |some r=>
   rw[he]at q
   dsimp only at q ⊢
   intro H1 v1 R1 hd1 f1
   have lr:=zao he
   refine⟨_,rfl,rd,dx,_,rfl,R1.ob,rfl,rd,dx,lt,ls,ras,all,n+1,xs,sts,f,rfl,R1,by rw[hd1];lia,by rw[hd1];lia,?_⟩
   rw[if_neg (by decide),hd1]
   cases hp:pExpr f 1 r with
   |none=>rw[hp]at q;exact q
   |some p=>
    rw[hp]at q
    dsimp only at q ⊢
    intro H2 n2 sts2 R2 hd2 f2
    refine⟨_,rfl,rd,dx,_,rfl,R2.ob,rfl,rd,dx,lt,ls,ras,all,n2,_,sts2,";",rfl,R2,qbe,?_⟩
    rw[hd2]
    cases hs:eat ";" p.2 with
    |none=>rw[hs]at q;exact q
    |some z=>
     rw[hs]at q
     dsimp only at q ⊢
     intro H3 v3 R3 hd3 f3
     exact q H3 (n2+1) sts2 R3 hd3 λc o h a1 a2=>f3 _ _ (f2 _ _ (f1 _ _ h a1) a1 a2) a1
theorem zw6(T:Txt K mg ad):OkM P w K mg base 5 ad.Reader "read_parameters" ["self"] (zzo K ad):=by
 have O1:=zmw (P:=P) (w:=w) (base:=base) T
 have O2:=zd1 (P:=P) (w:=w) (base:=base) T
 have O3:=znj (P:=P) (w:=w) (base:=base) T
 refine T.m_Reader_read_parameters.ok T.l_Reader c_Reader_read_parameters (λvs H Q E h=>?_) (λf cdv A outer s H vs Q E hr h=>?_)
 ·obtain⟨rd,dx,lt,ls,ras,all,n,xs,sts,f,rfl,_⟩:=h
  rfl
 ·obtain⟨rd,dx,lt,ls,ras,all,n,xs,sts,f,rfl,R,hf,q⟩:=h
  have h2:Room 2 _:=hr.mono (by decide:2<=4)
  unfold zff at q
  refine⟨_,zac (zal (cM O1 hr zab (pv 0) (zaa zam zae)))
   (zac (za9 (zce (cM O2 h2 zab (pv 0) (zaa zam zae))) (zaf (zaq (zbx zae))) zau)
   (zac (zap (i:=1) c_Reader_read_parameters.nd rfl (Or.inl rfl) (zbx (zaa (cM O3 hr zab (pv 0) (zaa zam zae)) zae)))
   (zac (zd0 zbl (zce (cM O2 h2 zab (pv 0) (zaa zam zae)))
    (zaf (zal (zh5 qe6 qff qfg zbn (pv 1) (zaa (cM O3 hr zab (pv 0) (zaa zam zae)) zae)))))
   (zac (zal (cM O1 hr zab (pv 0) (zaa zam zae)))
   (zaf (zaq (pv 1))))))),?_⟩
  refine⟨_,rfl,rd,dx,_,rfl,R.ob,rfl,rd,dx,lt,ls,ras,all,n,xs,sts,"(",rfl,R,zvr,?_⟩
  cases he:eat "(" (all.drop n) with
  |none=>rw[he]at q;exact q
  |some o=>
   rw[he]at q
   dsimp only at q ⊢
   intro H1 v1 R1 hd1 f1
   have lo:=zao he
   refine⟨_,rfl,rd,dx,_,rfl,R1.ob,rfl,rd,dx,lt,ls,ras,all,n+1,xs,sts,")",rfl,R1,zjs,?_⟩
   rw[hd1]
   cases hc:eat ")" o with
   |some z=>
    rw[hc]at q
    dsimp only at q ⊢
    intro H2 R2 hd2 f2
    refine⟨_,rfl,(by show 0<=sizeLine;decide),λD nD=>?_⟩
    exact q _ (n+1+1) D (R2.toSame (zaj nD _)) hd2 (((f1.trans f2)).same (zaj nD _)) ((f1.trans f2).free R2.ob nD) zad
   |none=>
    rw[hc]at q
    dsimp only at q ⊢
    obtain⟨f0,rfl,hf0⟩:=zfm (a:=o.length) (by lia:o.length+1<=f)
    cases f0 with
    |zero=>
     have:o=[]:=List.eq_nil_of_length_eq_zero (by lia)
     subst this
     refine⟨_,rfl,?_⟩
     refine⟨_,rfl,rd,dx,_,rfl,R1.ob,rfl,rd,dx,lt,ls,ras,all,n+1,xs,sts,rfl,R1,?_⟩
     rw[hd1]
     rw[zhi]at q
     exact q
    |succ f0=>
    rw[zhi]at q
    refine⟨_,rfl,?_⟩
    refine⟨_,rfl,rd,dx,_,rfl,R1.ob,rfl,rd,dx,lt,ls,ras,all,n+1,xs,sts,rfl,R1,?_⟩
    rw[hd1]
    cases hn:Kp169.nameAt o with
    |none=>rw[hn]at q;exact q
    |some x=>
     rw[hn]at q
     dsimp only at q ⊢
     intro H2 R2 f2
     refine⟨(by show 1<=sizeLine;decide),λD nD=>?_⟩
     have ln:=zcf hn
     have F12:=f1.trans f2
     have nD0:H D=none:=F12.free R2.ob nD
     have hd2:all.drop (n+1+1)=o.drop 1:=by rw[zbo,hd1]
     rw[<-hd2]at q
     refine⟨λm σ H'=>∃(n':Nat)(ps:List Bytes)(f':Nat),σ=[some (.ref rd),some (.ref D)]/\RAt ad H' rd dx lt ls ras all n' xs sts/\F1 H H' rd/\H' D=some (.lst (zby ps))/\(all.drop n').length<=f'/\ps.length+(all.drop n').length<=20000 ∧
      (match zoi f' (all.drop n') with
       |none=>zaw K ad.R E (-71) 0
       |some l=>∀H'' n'',RAt ad H'' rd dx lt ls ras all n'' xs sts->all.drop n''=l.2->F1 H H'' rd->H'' D=some (.lst (zby (ps++l.1)))->Q (.ref D) H'')/\m=(all.drop n').length,⟨_,n+1+1,[x],f0+1,rfl,R2.toSame (zaj nD _),F12.same (zaj nD _),zad,by rw[hd2];lia,?_,?_,rfl⟩,?_⟩
     ·have:=R.few
      have:([x]:List Bytes).length=1:=rfl
      simp only[qfl];lia
     ·cases ht:zoi (f0+1) (all.drop (n+1+1)) with
      |none=>rw[ht]at q;exact q
      |some l=>
       rw[ht]at q
       dsimp only[qez]at q ⊢
       intro H3 n3 R3 hd3 f3 e3
       exact q H3 n3 D R3 hd3 f3 nD0 e3
     ·rintro m σ H3 ⟨n3,ps,f3,rfl,R3,F3,e3,hf3,hp3,q3,rfl⟩
      unfold zoi at q3
      have Drd:D≠rd:=zf6 e3 R3.ob (by intro z;cases z)
      refine⟨_,rfl,rd,dx,_,rfl,R3.ob,rfl,rd,dx,lt,ls,ras,all,n3,xs,sts,",",rfl,R3,zvs,?_⟩
      cases hcm:eat "," (all.drop n3) with
      |some c=>
       rw[hcm]at q3
       dsimp only at q3 ⊢
       intro H4 R4 hd4 f4
       have lc:=zao hcm
       obtain⟨f3',rfl,hf3'⟩:=zfm (a:=c.length) (by lia:c.length+1<=f3)
       refine⟨_,rfl,?_⟩
       refine⟨λσ' H'=>∃(n':Nat)(ps:List Bytes)(f':Nat),σ'=[some (.ref rd),some (.ref D)]/\RAt ad H' rd dx lt ls ras all n' xs sts/\F1 H H' rd/\H' D=some (.lst (zby ps))/\(all.drop n').length<=f'/\ps.length+(all.drop n').length<=20000 ∧
        (match zoi f' (all.drop n') with
         |none=>zaw K ad.R E (-71) 0
         |some l=>∀H'' n'',RAt ad H'' rd dx lt ls ras all n'' xs sts->all.drop n''=l.2->F1 H H'' rd->H'' D=some (.lst (zby (ps++l.1)))->Q (.ref D) H'')/\(all.drop n').length<(all.drop n3).length,
        λσ' H' ⟨n',ps,f',a1,a2,a3,a4,a5,a6,a7,a8⟩=>⟨_,a8,n',ps,f',a1,a2,a3,a4,a5,a6,a7,rfl⟩,?_⟩
       refine⟨_,rfl,.inl ⟨rfl,_,SqL.of (f4 _ _ e3 Drd)⟩,_,rfl,rd,dx,_,rfl,R4.ob,rfl,rd,dx,lt,ls,ras,all,n3+1,xs,sts,rfl,R4,?_⟩
       rw[hd4]
       rw[zhi]at q3
       cases hn4:Kp169.nameAt c with
       |none=>rw[hn4]at q3;exact q3
       |some y=>
        rw[hn4]at q3
        dsimp only at q3 ⊢
        intro H5 R5 f5
        have ln5:=zcf hn4
        have e5:=f5 _ _ (f4 _ _ e3 Drd) Drd
        have hd5:all.drop (n3+1+1)=c.drop 1:=by rw[zbo,hd4]
        rw[<-hd5]at q3
        refine⟨D,_,_,rfl,rfl,e5,by rw[qec];exact zg4 (by lia),?_⟩
        have R6:=R5.side (l':=zby ps++[.str (S y)]) e5 (zai R.tk nD0) (zai R.st nD0)
        refine⟨n3+1+1,ps++[y],f3',rfl,R6,λb o h nb=>?_,by rw[zad];simp[zby],by rw[hd5];lia,?_,?_,by rw[hd5];lia⟩
        ·rw[zah (zai h nD0)]
         exact f5 _ _ (f4 _ _ (F3 _ _ h nb) nb) nb
        ·rw[hd5,qee]
         have:([y]:List Bytes).length=1:=rfl
         lia
        ·cases ht:zoi f3' (all.drop (n3+1+1)) with
         |none=>rw[ht]at q3;exact q3
         |some l=>
          rw[ht]at q3
          dsimp only[qez]at q3 ⊢
          intro H7 n7 R7 hd7 f7 e7
          exact q3 H7 n7 R7 hd7 f7 (by rw[qfc]at e7;exact e7)
      |none=>
       rw[hcm]at q3
       dsimp only at q3 ⊢
       refine⟨_,rfl,?_⟩
       refine⟨_,rfl,rd,dx,_,rfl,R3.ob,rfl,rd,dx,lt,ls,ras,all,n3,xs,sts,")",rfl,R3,zjs,?_⟩
       cases hcl:eat ")" (all.drop n3) with
       |none=>rw[hcl]at q3;exact q3
       |some z=>
        rw[hcl]at q3
        dsimp only[qez]at q3 ⊢
        intro H4 v4 R4 hd4 f4
        exact⟨_,rfl,q3 H4 (n3+1) R4 hd4 (F3.trans f4) (by rw[qfe];exact f4 _ _ e3 Drd)⟩
end
open Kp169 (Bytes isTok eat bytesOf number pExpr pArgs pMore power pNames pItem pItems sheetOf)
theorem zsv(f:Nat)(ts:List zcu):pItem f ts=match eat "unit" ts with
  |some r=>(match Kp169.nameAt r with
   |none=>none
   |some x=>(eat ";" (r.drop 1)).map λz=>(.unit x,z))
  |none=>match eat "let" ts with
   |some r=>(match Kp169.nameAt r with
    |none=>none
    |some x=>(zb0 f (r.drop 1)).map λp=>(.let_ x p.1,p.2))
   |none=>match eat "fn" ts with
    |none=>none
    |some k=>match Kp169.nameAt k with
     |none=>none
     |some x=>match zff f (k.drop 1) with
      |none=>none
      |some ps=>(zb0 f ps.2).map λp=>(.fn x ps.1 p.1,p.2):=by
 have dd:∀l:List zcu,l.drop 2=(l.drop 1).drop 1:=λl=>by rw[qhh]
 unfold pItem
 rw[zba (w:="unit")]
 cases isTok "unit" ts with
 |true=>
  simp only[if_true,bind,pure]
  cases Kp169.nameAt (ts.drop 1) with
  |none=>rfl
  |some x=>
   simp only[qe4,dd]
   cases eat ";" ((ts.drop 1).drop 1) <;> rfl
 |false=>
  simp only[qe0,if_false]
  rw[zba (w:="let")]
  cases isTok "let" ts with
  |true=>
   simp only[if_true,bind,pure]
   cases Kp169.nameAt (ts.drop 1) with
   |none=>rfl
   |some x=>
    simp only[qe4,dd]
    unfold zb0
    cases eat "=" ((ts.drop 1).drop 1) with
    |none=>rfl
    |some q=>
     simp only[qe4]
     cases pExpr f 1 q with
     |none=>rfl
     |some e=>
      simp only[qe4]
      cases eat ";" e.2 <;> rfl
  |false=>
   simp only[qe0,if_false,bind,pure]
   cases eat "fn" ts with
   |none=>rfl
   |some k=>
    simp only[qe4]
    cases Kp169.nameAt k with
    |none=>rfl
    |some x=>
     simp only[qe4]
     unfold zff
     cases eat "(" (k.drop 1) with
     |none=>rfl
     |some o=>
      simp only[qe4]
      have fin:∀ps:List Bytes×List zcu,((eat "=" ps.2).bind λq=>(pExpr f 1 q).bind λe=>(eat ";" e.2).bind λz=>some ((.fn x ps.1 e.1:zbk),z))=(zb0 f ps.2).map λp=>((.fn x ps.1 p.1:zbk),p.2):=λps=>by
       unfold zb0
       cases eat "=" ps.2 with
       |none=>rfl
       |some q=>
        simp only[qe4]
        cases pExpr f 1 q with
        |none=>rfl
        |some e=>
         simp only[qe4]
         cases eat ";" e.2 <;> rfl
      cases eat ")" o with
      |some z=>exact fin ([],z)
      |none=>
       simp only
       cases pNames f o with
       |none=>rfl
       |some ps=>exact fin ps
theorem zmr:∀(f:Nat)(ts:List zcu)(l:List Bytes)(r:List zcu),pNames f ts=some (l,r)->l.length+r.length<=ts.length/\(∀t∈r,t∈ts)
 |0,ts,l,r,h=>by simp[pNames]at h
 |f+1,ts,l,r,h=>by
  rw[zhi]at h
  cases hn:Kp169.nameAt ts with
  |none=>rw[hn]at h;cases h
  |some x=>
   rw[hn]at h
   dsimp only at h
   have l1:=zcf hn
   unfold zoi at h
   cases hc:eat "," (ts.drop 1) with
   |some c=>
    rw[hc]at h
    dsimp only at h
    have l2:=zao hc
    cases hp:pNames f c with
    |none=>rw[hp]at h;cases h
    |some p=>
     rw[hp]at h
     simp only[qez,qen.injEq,Prod.mk.injEq]at h
     obtain⟨rfl,rfl⟩:=h
     have ih:=zmr f c p.1 p.2 hp
     refine⟨by simp only[qeg];lia,λt ht=>qey (za0 hc t (ih.2 t ht))⟩
   |none=>
    rw[hc]at h
    dsimp only at h
    cases hz:eat ")" (ts.drop 1) with
    |none=>rw[hz]at h;cases h
    |some z=>
     rw[hz]at h
     simp only[qez,qen.injEq,Prod.mk.injEq]at h
     obtain⟨rfl,rfl⟩:=h
     have l2:=zao hz
     exact⟨by simp only[qeg,qe8];lia,λt ht=>qey (za0 hz t ht)⟩
theorem zhj{f:Nat}{ts:List zcu}{p:KE×List zcu}(hi:In1 ts)(h:zb0 f ts=some p):Fi (za5 p.1) ts p.2:=by
 unfold zb0 at h
 cases he:eat "=" ts with
 |none=>rw[he]at h;cases h
 |some q=>
  rw[he]at h
  dsimp only at h
  have l1:=zao he
  cases hx:pExpr f 1 q with
  |none=>rw[hx]at h;cases h
  |some e=>
   rw[hx]at h
   dsimp only at h
   have G:=(gd f).expr _ _ _ _ (hi.of (za0 he) (by lia)) hx
   have m:=G.len
   cases hs:eat ";" e.2 with
   |none=>rw[hs]at h;cases h
   |some z=>
    rw[hs]at h
    cases h
    have l2:=zao hs
    exact⟨by dsimp only;lia,λt ht=>za0 he t (G.sub t (za0 hs t ht)),G.bnd⟩
theorem zi0{f:Nat}{ts:List zcu}{p:List Bytes×List zcu}(h:zff f ts=some p):p.1.length+p.2.length<=ts.length/\(∀t∈p.2,t∈ts):=by
 unfold zff at h
 cases he:eat "(" ts with
 |none=>rw[he]at h;cases h
 |some o=>
  rw[he]at h
  dsimp only at h
  have l1:=zao he
  cases hc:eat ")" o with
  |some z=>
   rw[hc]at h
   cases h
   have l2:=zao hc
   exact⟨by simp only[qe8];lia,λt ht=>za0 he t (za0 hc t ht)⟩
  |none=>
   rw[hc]at h
   have:=zmr f o p.1 p.2 h
   exact⟨by lia,λt ht=>za0 he t (this.2 t ht)⟩
structure qea(i:zbk):Prop where
 len:(zbz i).length<=10000
 bnd:∀x∈zbz i,Bnd x
 par:(params i).length<=10000
theorem zmt{f:Nat}{ts:List zcu}{p:zbk×List zcu}(hi:In1 ts)(h:pItem f ts=some p):qea p.1/\p.2.length<ts.length/\(∀t∈p.2,t∈ts):=by
 rw[zsv]at h
 have h10:=hi.2
 cases hu:eat "unit" ts with
 |some r=>
  rw[hu]at h
  dsimp only at h
  have l1:=zao hu
  cases hn:Kp169.nameAt r with
  |none=>rw[hn]at h;cases h
  |some x=>
   rw[hn]at h
   dsimp only at h
   have l2:=zcf hn
   cases hs:eat ";" (r.drop 1) with
   |none=>rw[hs]at h;cases h
   |some z=>
    rw[hs]at h
    cases h
    have l3:=zao hs
    exact⟨⟨by simp[zbz],λx hx=>by simp[zbz]at hx,by simp[params]⟩,by dsimp only;lia,λt ht=>za0 hu t (qey (za0 hs t ht))⟩
 |none=>
  rw[hu]at h
  dsimp only at h
  cases hl:eat "let" ts with
  |some r=>
   rw[hl]at h
   dsimp only at h
   have l1:=zao hl
   cases hn:Kp169.nameAt r with
   |none=>rw[hn]at h;cases h
   |some x=>
    rw[hn]at h
    dsimp only at h
    have l2:=zcf hn
    cases hm:zb0 f (r.drop 1) with
    |none=>rw[hm]at h;cases h
    |some q=>
     rw[hm]at h
     cases h
     have G:=zhj (hi.of (λt ht=>za0 hl t (qey ht)) (by lia)) hm
     have m:=G.len
     exact⟨⟨by show (za5 q.1).length<=_;lia,G.bnd,by simp[params]⟩,by dsimp only;lia,λt ht=>za0 hl t (qey (G.sub t ht))⟩
  |none=>
   rw[hl]at h
   dsimp only at h
   cases hf:eat "fn" ts with
   |none=>rw[hf]at h;cases h
   |some k=>
    rw[hf]at h
    dsimp only at h
    have l1:=zao hf
    cases hn:Kp169.nameAt k with
    |none=>rw[hn]at h;cases h
    |some x=>
     rw[hn]at h
     dsimp only at h
     have l2:=zcf hn
     cases hp:zff f (k.drop 1) with
     |none=>rw[hp]at h;cases h
     |some ps=>
      rw[hp]at h
      dsimp only at h
      have P:=zi0 hp
      cases hm:zb0 f ps.2 with
      |none=>rw[hm]at h;cases h
      |some q=>
       rw[hm]at h
       cases h
       have sub:∀t∈ps.2,t∈ts:=λt ht=>za0 hf t (qey (P.2 t ht))
       have G:=zhj (hi.of sub (by lia)) hm
       have m:=G.len
       exact⟨⟨by show (za5 q.1).length<=_;lia,G.bnd,by show ps.1.length<=_;lia⟩,by dsimp only;lia,λt ht=>sub t (G.sub t ht)⟩
theorem zo5(k f:Nat)(ts:List zcu)(h:ts≠[]):pItems (k+1) f ts=match pItem f ts with
  |none=>none
  |some a=>(pItems k f a.2).map λl=>a.1::l:=by
 cases ts with
 |nil=>exact absurd rfl h
 |cons t r=>
  simp only[pItems,bind,pure]
  cases pItem f (t::r) with
  |none=>rfl
  |some a=>
   simp only[qe4]
   cases pItems k f a.2 <;> rfl
theorem zms(k f:Nat):pItems k f []=some []:=by cases k <;> simp[pItems]
theorem zkf:∀(k f:Nat)(ts:List zcu)(l:List zbk),In1 ts->pItems k f ts=some l->(∀i∈l,qea i)/\l.length<=ts.length
 |k,f,[],l,_,h=>by
  rw[zms]at h;cases h
  exact⟨λi hi=>by simp at hi,qek _⟩
 |0,f,t::r,l,_,h=>by simp[pItems]at h
 |k+1,f,t::r,l,hi,h=>by
  rw[zo5 _ _ _ (by simp)]at h
  cases hp:pItem f (t::r) with
  |none=>rw[hp]at h;cases h
  |some a=>
   rw[hp]at h
   dsimp only at h
   obtain⟨g1,g2,g3⟩:=zmt hi hp
   cases hl:pItems k f a.2 with
   |none=>rw[hl]at h;cases h
   |some m=>
    rw[hl]at h
    cases h
    obtain⟨j1,j2⟩:=zkf k f a.2 m (hi.of g3 (by lia)) hl
    refine⟨λi hm=>?_,by simp only[qeg]at g2 ⊢;lia⟩
    rcases qer.mp hm with rfl|hm
    ·exact g1
    ·exact j1 i hm
def ItemX(ad:Ad)(H:Hp)(a lp ls:Addr)(i:zbk):Prop:=∃(dx:Addr)(ts:List Addr),H a=some (.ins ad.Item dx (itf (ze2 i) (S i.name) lp ls))/\H lp=some (.lst (zby (params i)))/\H ls=some (.lst (ts.map V.ref))/\Paired (λt x=>H t=some (.tup (sxV x))) ts (zbz i)
theorem ItemX.at{ad:Ad}{H:Hp}{a lp ls:Addr}{i:zbk}(h:ItemX ad H a lp ls i):ItemAt ad H a i:=by
 obtain⟨dx,ts,h1,h2,h3,h4⟩:=h
 exact⟨dx,lp,ls,ts,h1,h2,h3,h4⟩
theorem ItemX.keep{ad:Ad}{H H':Hp}{a lp ls:Addr}{i:zbk}(h:ItemX ad H a lp ls i)(ka:∀o,H a=some o->H' a=some o)(kl:∀b l,(b=lp\/b=ls)->H b=some (.lst l)->H' b=some (.lst l))(kt:∀b l,H b=some (.tup l)->H' b=some (.tup l)):ItemX ad H' a lp ls i:=by
 obtain⟨dx,ts,h1,h2,h3,h4⟩:=h
 exact⟨dx,ts,ka _ h1,kl _ _ (.inl rfl) h2,kl _ _ (.inr rfl) h3,Paired.mapP h4 λ_ _ q=>kt _ _ q⟩
def qcq(ad:Ad):Sp:=λvs H Q _=>∃(p dx lp ls:Addr)(wd x:Str),vs=[.ref p,.str wd,.str x,.ref lp,.ref ls]/\H p=some (.ins ad.Item dx [])/\∀H',H' p=some (.ins ad.Item dx (itf wd x lp ls))->(∀b o,H b=some o->b≠p->H' b=some o)->Q .non H'
def zv0(ad:Ad):Sp:=λvs H Q _=>∃(p dx b:Addr)(rs:List Addr),vs=[.ref p,.ref b]/\H p=some (.ins ad.Reader dx [])/\H b=some (.lst (rs.map V.ref))/\rs.length<=100000/\∀H' lt ls pe,H lt=none->H ls=none->H pe=none->lt≠ls->H' p=some (.ins ad.Reader dx (rf lt 0 ls))->H' lt=some (.lst ((rs++[pe]).map V.ref))->H' pe=some (.tup [.str "end",.str ""])->H' ls=some (.lst []) ->
 (∀b o,H b=some o->b≠p->H' b=some o)->Q .non H'
theorem RAt.fresh{ad:Ad}{H:Hp}{rd dx lt ls ls':Addr}{ras:List Addr}{all:List zcu}{n:Nat}{xs:List Sx}{sts:List Addr}(R:RAt ad H rd dx lt ls ras all n xs sts)(hn:H ls'=none):RAt ad (upd (upd H ls' (.lst [])) rd (.ins ad.Reader dx (rf lt n ls'))) rd dx lt ls' ras all n [] []:=by
 have k:∀{c:Addr}{o:HO},H c=some o->(∀C d fs,o≠.ins C d fs)->upd (upd H ls' (.lst [])) rd (.ins ad.Reader dx (rf lt n ls')) c=some o:=λ{c o} e z=>by
  rw[zah (λy=>by subst y;rw[R.ob]at e;cases e;exact z _ _ _ rfl),zah (zai e hn)];exact e
 have hr:ls'≠rd:=(zai R.ob hn).symm
 exact⟨zad,k R.tk (λ_ _ _ z=>nomatch z),zai R.tk hn,λj t h=>by obtain⟨a,h1,h2⟩:=R.tok j t h;exact⟨a,h1,k h2 (λ_ _ _ z=>nomatch z)⟩,by obtain⟨a,h1,h2⟩:=R.en;exact⟨a,h1,k h2 (λ_ _ _ z=>nomatch z)⟩,by rw[zah hr,zad];rfl,Paired.nil,R.le,R.fine,R.few⟩
def qch(K:qed)(ad:Ad):Sp:=λvs H Q E=>∃(rd dx lt ls:Addr)(ras:List Addr)(all:List zcu)(n:Nat)(xs:List Sx)(sts:List Addr)(f:Nat),vs=[.ref rd]/\RAt ad H rd dx lt ls ras all n xs sts ∧
 16*(all.drop n).length+16<=f ∧
 match pItem f (all.drop n) with
 |none=>zaw K ad.R E (-71) 0
 |some p=>∀H' n' ls' xs' sts' a lp li,RAt ad H' rd dx lt ls' ras all n' xs' sts'->all.drop n'=p.2->F1 H H' rd->H a=none->H lp=none->H li=none->H ls'=none->ItemX ad H' a lp li p.1->Q (.ref a) H'
def qce(K:qed)(ad:Ad):Sp:=λvs H Q E=>∃(rd dx lt ls:Addr)(ras:List Addr)(all:List zcu)(n:Nat)(xs:List Sx)(sts:List Addr)(k f:Nat),vs=[.ref rd]/\RAt ad H rd dx lt ls ras all n xs sts ∧
 16*(all.drop n).length+16<=f/\(all.drop n).length<=k ∧
 match pItems k f (all.drop n) with
 |none=>zaw K ad.R E (-71) 0
 |some l=>∀H' D is,H D=none->F1 H H' rd->H' D=some (.lst (is.map V.ref))->Paired (λa i=>ItemAt ad H' a i) is l->Q (.ref D) H'
section
variable{P:Program}{w:World}{K:qed}{mg:Str->Option Value}{base:Heap}{ad:Ad}
theorem qdo(T:Txt K mg ad):OkC P w K mg base 1 "Item" ad.Item ["self","word","name","parameters","steps"] (qcq ad):=by
 obtain⟨f,fd,M,F,hb⟩:=T.i_Item
 refine⟨T.g_Item,f,fd,M,hb,F.okX zrv (λvs H Q E h=>?_) (λcdv A outer s H vs Q E hr h=>?_)⟩
 ·obtain⟨p,dx,lp,ls,wd,x,rfl,_⟩:=h
  rfl
 ·obtain⟨p,dx,lp,ls,wd,x,rfl,hp,q⟩:=h
  refine⟨_,zac (zb6 (pv 0) (pv 1) rfl) (zac (zb6 (pv 0) (pv 2) rfl) (zac (zb6 (pv 0) (pv 3) rfl) (zaf (zb6 (pv 0) (pv 4) rfl)))),?_⟩
  refine⟨_,rfl,_,rfl,p,ad.Item,dx,_,rfl,hp,T.l_Item,T.n_Item_word,(by show 0<1000;decide),_,rfl,_,rfl,p,ad.Item,dx,_,rfl,zad,T.l_Item,T.n_Item_name,(by show 1<1000;decide),_,rfl,_,rfl,p,ad.Item,dx,_,rfl,zad,T.l_Item,T.n_Item_parameters,(by show 2<1000;decide),_,rfl,_,rfl,p,ad.Item,dx,_,rfl,zad,T.l_Item,T.n_Item_steps,(by show 3<1000;decide),?_⟩
  exact q _ zad λb o e nb=>by rw[zah nb,zah nb,zah nb,zah nb];exact e
theorem zxd(T:Txt K mg ad):OkC P w K mg base 1 "Reader" ad.Reader ["self","tokens"] (zv0 ad):=by
 obtain⟨f,fd,M,F,hb⟩:=T.i_Reader
 obtain⟨t1,hE⟩:=T.k_END
 refine⟨T.g_Reader,f,fd,M,hb,F.okX zn2 (λvs H Q E h=>?_) (λcdv A outer s H vs Q E hr h=>?_)⟩
 ·obtain⟨p,dx,b,rs,rfl,_⟩:=h
  rfl
 ·obtain⟨p,dx,b,rs,rfl,hp,hb,hl,q⟩:=h
  refine⟨_,zac (zb6 (pv 0) (zbc zgg (pv 1) (zbx (zaa (zkd (zaa (zav (v:=.str "end") rfl hE ⟨_,rfl⟩) (zaa zam zae))) zae))) rfl) (zac (zb6 (pv 0) zan rfl) (zaf (zb6 (pv 0) (zbx zae) rfl))),?_⟩
  refine⟨_,rfl,(by show 2<=sizeLine;decide),λpe npe=>?_⟩
  have s1:=zaj (o:=HO.tup [V.str "end",V.str ""]) npe
  refine⟨(by show 1<=sizeLine;decide),λl1 nl1=>?_⟩
  have s2:=zaj (o:=HO.lst [V.ref pe]) nl1
  refine⟨b,l1,_,_,rfl,rfl,s2 _ _ (s1 _ _ hb),zad,by rw[qec];exact big (by simp;lia),λlt nlt=>?_⟩
  have s3:=zaj (o:=HO.lst (rs.map V.ref++[V.ref pe])) nlt
  have S3:=s1.trans (s2.trans s3)
  refine⟨_,rfl,p,ad.Reader,dx,_,rfl,S3 _ _ hp,T.l_Reader,T.n_Reader_tokens,(by show 0<1000;decide),?_⟩
  refine⟨_,rfl,p,ad.Reader,dx,_,rfl,zad,T.l_Reader,T.n_Reader_position,(by show 1<1000;decide),(by show 0<=sizeLine;decide),λls nls=>?_⟩
  have pls:p≠ls:=zai zad nls
  refine⟨_,rfl,p,ad.Reader,dx,_,rfl,(by rw[zah pls,zad]),T.l_Reader,T.n_Reader_steps,(by show 2<1000;decide),?_⟩
  rw[zah pls.symm,zah pls.symm]at nls
  have plt:p≠lt:=zai (s2 _ _ (s1 _ _ hp)) nlt
  have ppe:p≠pe:=zai hp npe
  have ltls:lt≠ls:=λz=>by subst z;rw[zad]at nls;cases nls
  have pels:pe≠ls:=zai (s3 _ _ (s2 _ _ zad)) nls
  refine q _ lt ls pe ((s1.trans s2).free nlt) (S3.free nls) npe ltls zad ?_ ?_ ?_ λb o e nb=>?_
  ·rw[zah plt.symm,zah ltls,zah plt.symm,zah plt.symm,zad,qej];rfl
  ·rw[zah ppe.symm,zah pels,zah ppe.symm,zah ppe.symm]
   exact s3 _ _ (s2 _ _ zad)
  ·rw[zah pls.symm,zad]
  ·rw[zah nb,zah (zai (S3 _ _ e) nls),zah nb,zah nb]
   exact S3 _ _ e
theorem qad(T:Txt K mg ad):OkM P w K mg base 236 ad.Reader "read_item" ["self"] (qch K ad):=by
 have O1:=zmw (P:=P) (w:=w) (base:=base) T
 have O2:=zd1 (P:=P) (w:=w) (base:=base) T
 have O3:=znj (P:=P) (w:=w) (base:=base) T
 have O4:=qdo (P:=P) (w:=w) (base:=base) T
 have O5:=zuk (P:=P) (w:=w) (base:=base) T
 have O6:=zw6 (P:=P) (w:=w) (base:=base) T
 refine T.m_Reader_read_item.ok T.l_Reader c_Reader_read_item (λvs H Q E h=>?_) (λf cdv A outer s H vs Q E hr h=>?_)
 ·obtain⟨rd,dx,lt,ls,ras,all,n,xs,sts,f,rfl,_⟩:=h
  rfl
 ·obtain⟨rd,dx,lt,ls,ras,all,n,xs,sts,f,rfl,R,hf,q⟩:=h
  have h5:Room 5 _:=hr.mono (by lia)
  have h4:Room 4 _:=hr.mono (by lia)
  have h2:Room 2 _:=hr.mono (by lia)
  rw[zsv]at q
  refine⟨_,zac (zb6 (pv 0) (zbx zae) rfl)
   (zac (za9 (zce (cM O2 h2 zab (pv 0) (zaa zam zae)))
    (zac (zap (i:=1) c_Reader_read_item.nd rfl (Or.inl rfl) (cM O3 h4 zab (pv 0) (zaa zam zae)))
    (zac (zal (cM O1 h4 zab (pv 0) (zaa zam zae)))
    (zaf (zaq (cC O4 h2 zab (zaa zam (zaa (pv 1) (zaa (zbx zae) (zaa (zbx zae) zae))))))))) zau)
   (zac (za9 (zce (cM O2 h2 zab (pv 0) (zaa zam zae)))
    (zac (zap (i:=1) c_Reader_read_item.nd rfl (Or.inl rfl) (cM O3 h4 zab (pv 0) (zaa zam zae)))
    (zac (zal (cM0 O5 hr zab (pv 0)))
    (zaf (zaq (cC O4 h2 zab (zaa zam (zaa (pv 1) (zaa (zbx zae) (zaa (zar (pv 0) rfl) zae))))))))) zau)
   (zac (zal (cM O1 h4 zab (pv 0) (zaa zam zae)))
   (zac (zap (i:=1) c_Reader_read_item.nd rfl (Or.inl rfl) (cM O3 h4 zab (pv 0) (zaa zam zae)))
   (zac (zap (i:=2) c_Reader_read_item.nd rfl (Or.inl rfl) (cM0 O6 h5 zab (pv 0)))
   (zac (zal (cM0 O5 hr zab (pv 0)))
   (zaf (zaq (cC O4 h2 zab (zaa zam (zaa (pv 1) (zaa (pv 2) (zaa (zar (pv 0) rfl) zae))))))))))))),?_⟩
  refine⟨(by show 0<=sizeLine;decide),λl0 nl0=>?_⟩
  have R0:=R.fresh nl0
  have f0:F1 H (upd (upd H l0 (.lst [])) rd (.ins ad.Reader dx (rf lt n l0))) rd:=λb o h nb=>by rw[zah nb,zah (zai h nl0)];exact h
  have rl0:rd≠l0:=zai R.ob nl0
  refine⟨_,rfl,rd,ad.Reader,dx,_,rfl,by rw[zah rl0];exact R.ob,T.l_Reader,T.n_Reader_steps,(by show 3<1000;decide),?_⟩
  have few:=R.few
  have ld:(all.drop n).length<=all.length:=by simp
  show tSeq _ _ _ _ (upd (upd H l0 (.lst [])) rd (.ins ad.Reader dx (rf lt n l0)))
  generalize upd (upd H l0 (.lst [])) rd (.ins ad.Reader dx (rf lt n l0))=H0 at R0 f0
  refine⟨_,rfl,rd,dx,_,rfl,R0.ob,rfl,rd,dx,lt,l0,ras,all,n,[],[],"unit",rfl,R0,w_unit,?_⟩
  have fin:∀{Hk:Hp}{nk:Nat}{xsk:List Sx}{stk:List Addr}{a dxa lp li:Addr}{H4 Hm:Hp}{o1:HO},RAt ad Hk rd dx lt l0 ras all nk xsk stk->F1 H Hk rd->Same Hk Hm->Hm a=none->Hm dxa=none ->
    (∀b o,(upd (upd Hm dxa (.own a)) a o1) b=some o->b≠a->H4 b=some o)->RAt ad H4 rd dx lt l0 ras all nk xsk stk/\F1 H H4 rd/\H a=none/\(∀b o,Hm b=some o->H4 b=some o):=by
   intro Hk nk xsk stk a dxa lp li H4 Hm o1 Rk Fk sm na nd f4
   have s4:Same Hm H4:=λb o h=>f4 _ _ (by rw[zah (zai h na),zah (zai h nd)];exact h) (zai h na)
   exact⟨Rk.toSame (sm.trans s4),Fk.same (sm.trans s4),Fk.free Rk.ob (sm.free na),s4⟩
  cases hu:eat "unit" (all.drop n) with
  |some r=>
   rw[hu]at q
   dsimp only at q ⊢
   intro H1 R1 hd1 f1
   refine⟨_,rfl,?_⟩
   refine⟨_,rfl,rd,dx,_,rfl,R1.ob,rfl,rd,dx,lt,l0,ras,all,n+1,[],[],rfl,R1,?_⟩
   rw[hd1]
   cases hn:Kp169.nameAt r with
   |none=>rw[hn]at q;exact q
   |some x=>
    rw[hn]at q
    dsimp only at q ⊢
    intro H2 R2 f2
    have hd2:all.drop (n+1+1)=r.drop 1:=by rw[zbo,hd1]
    refine⟨_,rfl,rd,dx,_,rfl,R2.ob,rfl,rd,dx,lt,l0,ras,all,n+1+1,[],[],";",rfl,R2,qbe,?_⟩
    rw[hd2]
    cases hs:eat ";" (r.drop 1) with
    |none=>rw[hs]at q;exact q
    |some z=>
     rw[hs]at q
     dsimp only[qez]at q ⊢
     intro H3 v3 R3 hd3 f3
     have Ft:=((f0.trans f1).trans f2).trans f3
     refine⟨_,rfl,(by show 0<=sizeLine;decide),λlp nlp=>?_⟩
     have s1:=zaj (o:=HO.lst []) nlp
     refine⟨(by show 0<=sizeLine;decide),λli nli=>?_⟩
     have s2:=zaj (o:=HO.lst []) nli
     intro a dxa na ndx hne
     refine⟨a,dxa,lp,li,"unit",S x,rfl,zad,λH4 e4 f4=>⟨rfl,?_⟩⟩
     obtain⟨g1,g2,g3,g4⟩:=fin (lp:=lp) (li:=li) R3 Ft (s1.trans s2) na ndx f4
     refine q H4 _ l0 [] [] a lp li g1 hd3 g2 g3 (Ft.free R3.ob nlp) (Ft.free R3.ob (s1.free nli)) nl0 ⟨dxa,[],e4,g4 _ _ (s2 _ _ zad),g4 _ _ zad,Paired.nil⟩
  |none=>
   rw[hu]at q
   dsimp only at q ⊢
   refine⟨_,rfl,?_⟩
   refine⟨_,rfl,rd,dx,_,rfl,R0.ob,rfl,rd,dx,lt,l0,ras,all,n,[],[],"let",rfl,R0,w_let,?_⟩
   cases hl:eat "let" (all.drop n) with
   |some r=>
    rw[hl]at q
    dsimp only at q ⊢
    intro H1 R1 hd1 f1
    have l1:=zao hl
    refine⟨_,rfl,?_⟩
    refine⟨_,rfl,rd,dx,_,rfl,R1.ob,rfl,rd,dx,lt,l0,ras,all,n+1,[],[],rfl,R1,?_⟩
    rw[hd1]
    cases hn:Kp169.nameAt r with
    |none=>rw[hn]at q;exact q
    |some x=>
     rw[hn]at q
     dsimp only at q ⊢
     intro H2 R2 f2
     have l2:=zcf hn
     have hd2:all.drop (n+1+1)=r.drop 1:=by rw[zbo,hd1]
     refine⟨_,rfl,rd,dx,_,rfl,R2.ob,rfl,rd,dx,lt,l0,ras,all,n+1+1,[],[],f,rfl,R2,by rw[hd2,qe8];lia,by rw[hd2];lia,?_⟩
     rw[hd2]
     cases hm:zb0 f (r.drop 1) with
     |none=>rw[hm]at q;exact q
     |some p=>
      rw[hm]at q
      dsimp only[qez]at q ⊢
      intro H3 n3 sts3 R3 hd3 f3
      have Ft:F1 H H3 rd:=λb o h nb=>f3 _ _ (f2 _ _ (f1 _ _ (f0 _ _ h nb) nb) nb) nb (zai h nl0)
      refine⟨_,rfl,(by show 0<=sizeLine;decide),λlp nlp=>?_⟩
      have s1:=zaj (o:=HO.lst []) nlp
      have R3':=R3.toSame s1
      refine⟨_,rfl,rd,ad.Reader,dx,_,_,rfl,R3'.ob,T.l_Reader,T.n_Reader_steps,rfl,?_⟩
      intro a dxa na ndx hne
      refine⟨a,dxa,lp,l0,"let",S x,rfl,zad,λH4 e4 f4=>⟨rfl,?_⟩⟩
      obtain⟨g1,g2,g3,g4⟩:=fin (lp:=lp) (li:=l0) R3 Ft s1 na ndx f4
      refine q H4 _ l0 _ _ a lp l0 g1 hd3 g2 g3 (Ft.free R3.ob nlp) nl0 nl0 ⟨dxa,sts3,e4,g4 _ _ zad,g1.st,by have:=g1.ps;rw[qfp]at this;exact this⟩
   |none=>
    rw[hl]at q
    dsimp only at q ⊢
    refine⟨_,rfl,?_⟩
    refine⟨_,rfl,rd,dx,_,rfl,R0.ob,rfl,rd,dx,lt,l0,ras,all,n,[],[],"fn",rfl,R0,w_fn,?_⟩
    cases hfn:eat "fn" (all.drop n) with
    |none=>rw[hfn]at q;exact q
    |some r=>
     rw[hfn]at q
     dsimp only at q ⊢
     intro H1 v1 R1 hd1 f1
     have l1:=zao hfn
     refine⟨_,rfl,rd,dx,_,rfl,R1.ob,rfl,rd,dx,lt,l0,ras,all,n+1,[],[],rfl,R1,?_⟩
     rw[hd1]
     cases hn:Kp169.nameAt r with
     |none=>rw[hn]at q;exact q
     |some x=>
      rw[hn]at q
      dsimp only at q ⊢
      intro H2 R2 f2
      have l2:=zcf hn
      have hd2:all.drop (n+1+1)=r.drop 1:=by rw[zbo,hd1]
      refine⟨_,rfl,rd,dx,_,rfl,R2.ob,rfl,rd,dx,lt,l0,ras,all,n+1+1,[],[],f,rfl,R2,by rw[hd2];lia,?_⟩
      rw[hd2]
      cases hpp:zff f (r.drop 1) with
      |none=>rw[hpp]at q;exact q
      |some ps=>
       rw[hpp]at q
       dsimp only at q ⊢
       intro H3 n3 D R3 hd3 f3 nD e3
       have pl:=(zi0 hpp).1
       have F02:=(f0.trans f1).trans f2
       have nD0:H D=none:=F02.free R2.ob nD
       have Dl0:D≠l0:=(zai R2.st nD).symm
       have Drd:D≠rd:=zf6 e3 R3.ob (by intro z;cases z)
       refine⟨_,rfl,rd,dx,_,rfl,R3.ob,rfl,rd,dx,lt,l0,ras,all,n3,[],[],f,rfl,R3,by rw[hd3,qe8];lia,by rw[hd3];lia,?_⟩
       rw[hd3]
       cases hm:zb0 f ps.2 with
       |none=>rw[hm]at q;exact q
       |some p=>
        rw[hm]at q
        dsimp only[qez]at q ⊢
        intro H4 n4 sts4 R4 hd4 f4
        have Ft:F1 H H4 rd:=λb o h nb=>f4 _ _ (f3 _ _ (F02 _ _ h nb) nb) nb (zai h nl0)
        have e4D:=f4 _ _ e3 Drd Dl0
        refine⟨_,rfl,_,rfl,_,rfl,rd,ad.Reader,dx,_,_,rfl,R4.ob,T.l_Reader,T.n_Reader_steps,rfl,?_⟩
        intro a dxa na ndx hne
        refine⟨a,dxa,D,l0,"fn",S x,rfl,zad,λH5 e5 f5=>⟨rfl,?_⟩⟩
        obtain⟨g1,g2,g3,g4⟩:=fin (lp:=D) (li:=l0) R4 Ft (Same.refl _) na ndx f5
        refine q H5 _ l0 _ _ a D l0 g1 hd4 g2 g3 nD0 nl0 nl0 ⟨dxa,sts4,e5,g4 _ _ e4D,g1.st,by have:=g1.ps;rw[qfp]at this;exact this⟩
end
open Kp169 (Bytes isTok eat bytesOf number pExpr pArgs pMore power pNames pItem pItems sheetOf Known)
theorem pget2{α β:Type}{R:α->β->Prop}:∀{l:List α}{m:List β}{i:Nat}{b:β},Paired R l m->m[i]?=some b->∃a,l[i]?=some a/\R a b
 |_,_,_,_,.nil,h=>by simp at h
 |_,_,0,_,.cons a t,h=>by simp at h;subst h;exact⟨_,rfl,a⟩
 |_,_,i+1,_,.cons a t,h=>by
  obtain⟨s,h1,h2⟩:=pget2 (i:=i) t (by simpa using h)
  exact⟨s,by simpa using h1,h2⟩
def Far(ad:Ad)(H:Hp)(rd D:Addr)(a:Addr)(i:zbk):Prop:=a≠rd/\∃lp li,lp≠D/\li≠D/\ItemX ad H a lp li i
theorem Far.f1{ad:Ad}{H H':Hp}{rd D a dx C:Addr}{fs:List (Str×V)}{i:zbk}(h:Far ad H rd D a i)(f:F1 H H' rd)(hr:H rd=some (.ins C dx fs)):Far ad H' rd D a i:=by
 obtain⟨h1,lp,li,h2,h3,x⟩:=h
 exact⟨h1,lp,li,h2,h3,x.keep (λo e=>f _ _ e h1) (λb l _ e=>f _ _ e (zf6 e hr (by intro z;cases z))) λb l e=>f _ _ e (zf6 e hr (by intro z;cases z))⟩
theorem Far.upd{ad:Ad}{H:Hp}{rd D a:Addr}{l:List V}{o:HO}{i:zbk}(h:Far ad H rd D a i)(hD:H D=some (.lst l)):Far ad (upd H D o) rd D a i:=by
 obtain⟨h1,lp,li,h2,h3,x⟩:=h
 refine⟨h1,lp,li,h2,h3,x.keep (λu e=>?_) (λb l hb e=>?_) λb l e=>?_⟩
 ·rw[zah];exact e
  obtain⟨dx,ts,x1,_⟩:=x
  exact zf6 x1 hD (by intro z;cases z)
 ·rw[zah];exact e
  rcases hb with rfl|rfl
  ·exact h2
  ·exact h3
 ·rw[zah (zf6 e hD (by intro z;cases z))];exact e
def qco(K:qed)(ad:Ad):Sp:=λvs H Q E=>∃(b:Addr)(rs:List Addr)(ts:List zcu),vs=[.ref b]/\H b=some (.lst (rs.map V.ref))/\Paired (λp t=>zrx H p t) rs ts/\(∀t∈ts,zlc t)/\ts.length<=10000 ∧
 match sheetOf ts with
 |none=>zaw K ad.R E (-71) 0
 |some l=>∀H' D is,Same H H'->H' D=some (.lst (is.map V.ref))->Paired (λa i=>ItemAt ad H' a i) is l->Q (.ref D) H'
noncomputable def zo0(b:Bytes):(Int×Nat) ⊕ Known:=if 8192<b.length then .inl (-28,0) else match Kp169.tokens b with
 |none=>.inl (-71,0)
 |some ts=>if 2048<ts.length then .inl (-28,0) else match sheetOf ts with
  |none=>.inl (-71,0)
  |some l=>zjz l
def qcg(K:qed)(ad:Ad):Sp:=λvs H Q E=>∃(p:Addr)(b:Bytes),vs=[.ref p]/\SqL K H p ((zn8 b).map V.int)/\TOk ad H ∧
 match zo0 b with
 |.inl x=>zaw K ad.R E x.1 x.2
 |.inr known=>∀(b':Addr)(as:List Addr)(H':Hp),H' b'=some (.lst (as.map V.ref))->Paired (λa (q:Bytes×zln)=>KindAt ad H' a q.2) as known->TOk ad H'->Q (.ref b') H'
theorem qd5{x:Sx}(h:Bnd x):-1000<sxI x/\sxI x<1000000:=by
 cases x with
 |call f n=>exact⟨by show (-1000:Int)<(n:Int);lia,by show (n:Int)<1000000;have h:n<1000000:=h;lia⟩
 |pw k=>exact⟨h.1,by have h:k<1000:=h.2;show k<1000000;lia⟩
 |name y=>exact⟨by show (-1000:Int)<0;decide,by show (0:Int)<1000000;decide⟩
 |_=>exact⟨by decide,by decide⟩
theorem fineI{i:zbk}(h:qea i):Fine i:=⟨h.len,λx hx=>qd5 (h.bnd x hx)⟩
section
variable{P:Program}{w:World}{K:qed}{mg:Str->Option Value}{base:Heap}{ad:Ad}
theorem qaa(T:Txt K mg ad):OkM P w K mg base 237 ad.Reader "read_sheet" ["self"] (qce K ad):=by
 have O1:=zjh (P:=P) (w:=w) (base:=base) T
 have O2:=qad (P:=P) (w:=w) (base:=base) T
 obtain⟨t1,hEnd⟩:=T.k_END
 refine T.m_Reader_read_sheet.ok T.l_Reader c_Reader_read_sheet (λvs H Q E h=>?_) (λf cdv A outer s H vs Q E hr h=>?_)
 ·obtain⟨rd,dx,lt,ls,ras,all,n,xs,sts,k,f,rfl,_⟩:=h
  rfl
 ·obtain⟨rd,dx,lt,ls,ras,all,n,xs,sts,k,f,rfl,R,hf,hk,q⟩:=h
  have h1:Room 1 _:=hr.mono (by lia)
  refine⟨_,zac (zap (i:=1) c_Reader_read_sheet.nd rfl (Or.inl rfl) (zbx zae))
   (zac (zd0 zbl (zas zo7 (cM0 O1 h1 zab (pv 0)) (zav (v:=.str "end") rfl hEnd ⟨_,rfl⟩) (zaz _))
    (zaf (zal (zh5 qe6 qff qfg zbn (pv 1) (zaa (cM0 O2 hr zab (pv 0)) zae)))))
   (zaf (zaq (pv 1)))),?_⟩
  refine⟨(by show 0<=sizeLine;decide),λD nD=>?_⟩
  have few:=R.few
  have ldl:(all.drop n).length<=all.length:=by simp
  refine⟨λm σ H'=>∃(n':Nat)(ls':Addr)(xs':List Sx)(sts':List Addr)(k':Nat)(is:List Addr)(items:List zbk),σ=[some (.ref rd),some (.ref D)]/\RAt ad H' rd dx lt ls' ras all n' xs' sts'/\F1 H H' rd/\H' D=some (.lst (is.map V.ref))/\Paired (λa i=>Far ad H' rd D a i) is items/\ls'≠D ∧
   16*(all.drop n').length+16<=f/\(all.drop n').length<=k'/\is.length+(all.drop n').length<=10000 ∧
   (match pItems k' f (all.drop n') with
    |none=>zaw K ad.R E (-71) 0
    |some l=>∀H'' is',F1 H H'' rd->H'' D=some (.lst (is'.map V.ref))->Paired (λa i=>ItemAt ad H'' a i) is' (items++l)->Q (.ref D) H'')/\m=(all.drop n').length,⟨_,n,ls,xs,sts,k,[],[],rfl,R.toSame (zaj nD _),λb o h nb=>zaj nD _ _ _ h,zad,Paired.nil,zai R.st nD,hf,hk,by simp only[qe8];lia,?_,rfl⟩,?_⟩
  ·cases hp:pItems k f (all.drop n) with
   |none=>rw[hp]at q;exact q
   |some l=>
    rw[hp]at q
    dsimp only at q ⊢
    intro H2 is2 f2 e2 p2
    exact q H2 D is2 nD f2 e2 p2
  ·rintro m σ H2 ⟨n2,ls2,xs2,sts2,k2,is,items,rfl,R2,F2',e2,P2,hne,hf2,hk2,hx2,q2,rfl⟩
   have Drd:D≠rd:=zf6 e2 R2.ob (by intro z;cases z)
   refine⟨_,rfl,rd,dx,_,rfl,R2.ob,rfl,rd,dx,lt,ls2,ras,all,n2,xs2,sts2,rfl,R2,rfl,_,rfl,?_⟩
   rw[<-qb0,zh0]
   cases hd:all.drop n2 with
   |nil=>
    rw[decide_eq_true (show zb1 ([]:List zcu)=qby from rfl)]
    rw[hd,zms]at q2
    refine⟨_,rfl,?_⟩
    exact q2 H2 is F2' e2 (by rw[qfe];exact Paired.mapP P2 λ_ _ h=>by obtain⟨_,lp,li,_,_,x⟩:=h;exact x.at)
   |cons t r=>
    have hne2:all.drop n2≠[]:=by rw[hd];simp
    rw[<-hd,decide_eq_false (by rw[hd];exact zyx (R2.oks t (by rw[hd];simp)))]
    have lpos:1<=(all.drop n2).length:=by rw[hd];simp
    obtain⟨k2',rfl,hk2'⟩:=zfm (a:=(all.drop n2).length - 1) (by lia:(all.drop n2).length - 1+1<=k2)
    rw[zo5 _ _ _ hne2]at q2
    refine⟨λσ' H'=>∃(n':Nat)(ls':Addr)(xs':List Sx)(sts':List Addr)(k':Nat)(is:List Addr)(items:List zbk),σ'=[some (.ref rd),some (.ref D)]/\RAt ad H' rd dx lt ls' ras all n' xs' sts'/\F1 H H' rd/\H' D=some (.lst (is.map V.ref))/\Paired (λa i=>Far ad H' rd D a i) is items/\ls'≠D ∧
     16*(all.drop n').length+16<=f/\(all.drop n').length<=k'/\is.length+(all.drop n').length<=10000 ∧
     (match pItems k' f (all.drop n') with
      |none=>zaw K ad.R E (-71) 0
      |some l=>∀H'' is',F1 H H'' rd->H'' D=some (.lst (is'.map V.ref))->Paired (λa i=>ItemAt ad H'' a i) is' (items++l)->Q (.ref D) H'')/\(all.drop n').length<(all.drop n2).length,
     λσ' H' ⟨n',ls',xs',sts',k',is,items,a1,a2,a3,a4,a5,a6,a7,a8,a9,a10,a11⟩=>⟨_,a11,n',ls',xs',sts',k',is,items,a1,a2,a3,a4,a5,a6,a7,a8,a9,a10,rfl⟩,?_⟩
    refine⟨_,rfl,.inl ⟨rfl,_,SqL.of e2⟩,_,rfl,rd,dx,_,rfl,R2.ob,rfl,rd,dx,lt,ls2,ras,all,n2,xs2,sts2,f,rfl,R2,hf2,?_⟩
    cases hp:pItem f (all.drop n2) with
    |none=>rw[hp]at q2;exact q2
    |some p=>
     rw[hp]at q2
     dsimp only at q2 ⊢
     intro H3 n3 ls3 xs3 sts3 a lp li R3 hd3 f3 na nlp nli nls IX
     have pf:=(zmt R2.in1 hp).2.1
     have e3:=f3 _ _ e2 Drd
     refine⟨D,_,_,rfl,rfl,e3,by rw[qec];exact zg4 (by lia),?_⟩
     have ls3D:ls3≠D:=(zai e2 nls).symm
     have R4:=R3.side (l':=is.map V.ref++[.ref a]) e3 (zai R.tk nD) ls3D
     refine⟨n3,ls3,xs3,sts3,k2',is++[a],items++[p.1],rfl,R4,λb o h nb=>?_,by rw[zad,qej];rfl,?_,ls3D,by rw[hd3];lia,by rw[hd3];lia,?_,?_,by rw[hd3];lia⟩
     ·rw[zah (zai h nD)]
      exact f3 _ _ (F2' _ _ h nb) nb
     ·refine zwm (Paired.mapP P2 λ_ _ h=>(h.f1 f3 R2.ob).upd e3) (Far.upd ⟨(zai R2.ob na).symm,lp,li,(zai e2 nlp).symm,(zai e2 nli).symm,IX⟩ e3)
     ·rw[hd3,qee]
      have:([a]:List Addr).length=1:=rfl
      lia
     ·rw[hd3]
      cases hl:pItems k2' f p.2 with
      |none=>rw[hl]at q2;exact q2
      |some l=>
       rw[hl]at q2
       dsimp only[qez]at q2 ⊢
       intro H5 is5 f5 e5 p5
       exact q2 H5 is5 f5 e5 (by rw[qfc]at p5;exact p5)
theorem qai(T:Txt K mg ad):Ok P w K mg base 238 "items_of" ["tokens"] (qco K ad):=by
 have O1:=zxd (P:=P) (w:=w) (base:=base) T
 have O2:=qaa (P:=P) (w:=w) (base:=base) T
 refine T.f_items_of.ok T.M zu9 (λvs H Q E h=>?_) (λf cdv A outer s0 H vs Q E hr h=>?_)
 ·obtain⟨b,rs,ts,rfl,_⟩:=h
  rfl
 ·obtain⟨b,rs,ts,rfl,hb,hP,hfine,hlen,q⟩:=h
  have h2:Room 2 _:=hr.mono (by lia)
  refine⟨_,zaf (zaq (cM0 O2 hr zab (cC O1 h2 zab (zaa (pv 0) zae)))),?_⟩
  have rl:rs.length=ts.length:=Paired.length hP
  refine⟨_,rfl,λrd dx nr ndx hne=>?_⟩
  have s0:Same H (upd (upd H dx (.own rd)) rd (.ins ad.Reader dx [])):=zay (zaj ndx _) nr _
  refine⟨rd,dx,b,rs,rfl,zad,s0 _ _ hb,by lia,λH1 lt ls pe nlt nls npe ltls e1 e2 e3 e4 f1=>⟨rfl,?_⟩⟩
  have s1:Same H H1:=λu v h=>f1 _ _ (s0 _ _ h) (zai h nr)
  have R:RAt ad H1 rd dx lt ls (rs++[pe]) ts 0 [] []:=⟨e1,e2,ltls,λj t h=>by
    obtain⟨a,h1,h2⟩:=pget2 hP h
    exact⟨a,by rw[qil (qef.mp h1).1];exact h1,s1 _ _ h2⟩,⟨pe,by rw[qge (by lia),rl];simp,e3⟩,e4,Paired.nil,qf4 _,hfine,hlen⟩
  unfold sheetOf at q
  refine⟨rd,dx,_,rfl,e1,rfl,rd,dx,lt,ls,_,ts,0,[],[],ts.length,16*ts.length+16,rfl,R,qek _,qek _,?_⟩
  rw[qgx]
  cases hp:pItems ts.length (16*ts.length+16) ts with
  |none=>rw[hp]at q;exact q
  |some l=>
   rw[hp]at q
   dsimp only at q ⊢
   intro H2 D is nD f2 e5 p5
   exact q H2 D is (λu v h=>f2 _ _ (s1 _ _ h) (zai h nr)) e5 p5
theorem qac(T:Txt K mg ad)(hK:K.In base)(hB:base.BuiltinsAt mg ad.pNP):Ok P w K mg base 239 "read_kinds" ["t"] (qcg K ad):=by
 have O1:=zwz (P:=P) (w:=w) (base:=base) T
 have O2:=qai (P:=P) (w:=w) (base:=base) T
 have O3:=zxc (P:=P) (w:=w) (base:=base) T
 have O4:=qab (P:=P) (w:=w) (base:=base) T
 have O5:=qah (P:=P) (w:=w) T hK hB
 refine T.f_read_kinds.ok T.M c_read_kinds (λvs H Q E h=>?_) (λf cdv A outer s0 H vs Q E hr h=>?_)
 ·obtain⟨p,b,rfl,_⟩:=h
  rfl
 ·obtain⟨p,b,rfl,hp,ht,q⟩:=h
  have h7:Room 7 _:=hr.mono (by lia)
  have h4:Room 4 _:=hr.mono (by lia)
  have h9:Room 9 _:=hr.mono (by lia)
  refine⟨_,zac (zap (i:=1) c_read_kinds.nd rfl (Or.inl rfl) (cN O2 hr zab (zaa (cN O1 h7 zab (zaa (pv 0) zae)) zae)))
   (zac (zal (cN O3 h4 zab (zaa (pv 1) zae)))
   (zac (zal (cN O4 h4 zab (zaa (pv 1) zae)))
   (zaf (zaq (cN O5 h9 zab (zaa (pv 1) zae)))))),?_⟩
  refine⟨_,rfl,p,b,rfl,hp,?_⟩
  unfold zo0 at q
  by_cases h8:8192<b.length
  ·rw[if_pos h8]at q ⊢
   exact q
  rw[if_neg h8]at q ⊢
  cases htk:Kp169.tokens b with
  |none=>rw[htk]at q;exact q
  |some ts=>
   rw[htk]at q
   dsimp only at q ⊢
   by_cases h2:2048<ts.length
   ·rw[if_pos h2]at q ⊢
    exact q
   rw[if_neg h2]at q ⊢
   intro a rs H1 na s1 e1 P1
   have tfine:∀t∈ts,zlc t:=by
    rw[zit]at htk
    exact zks _ _ ts (qek _) (by rw[qec];lia) htk
   refine⟨a,rs,ts,rfl,e1,P1,tfine,by lia,?_⟩
   cases hsh:sheetOf ts with
   |none=>rw[hsh]at q;exact q
   |some l=>
    rw[hsh]at q
    dsimp only at q ⊢
    intro H2 D is s2 e2 P2
    have lf:=zkf _ _ ts l ⟨tfine,by lia⟩ hsh
    unfold zjz at q
    refine⟨_,rfl,D,is,l,rfl,e2,P2,?_⟩
    cases hc:zb8 0 0 l with
    |some k=>rw[hc]at q;exact q
    |none=>
     rw[hc]at q
     dsimp only at q ⊢
     intro H3 s3
     have P3:=Paired.mapP P2 λ_ _ h=>ItemAt.same h s3
     refine⟨_,rfl,D,is,l,rfl,s3 _ _ e2,P3,by lia,λi hi=>⟨by have:=(lf.1 i hi).par;lia,by have:=(lf.1 i hi).len;lia⟩,?_⟩
     cases hrt:zcd [] l with
     |some k=>rw[hrt]at q;exact q
     |none=>
      rw[hrt]at q
      dsimp only at q ⊢
      intro H4 s4
      have P4:=Paired.mapP P3 λ_ _ h=>ItemAt.same h s4
      refine⟨_,rfl,D,is,l,rfl,s4 _ _ (s3 _ _ e2),P4,hc,hrt,λi hi=>fineI (lf.1 i hi),((ht.same s1).same s2).same (s3.trans s4),?_⟩
      cases hk:zdo 0 [] 0 l with
      |inl x=>rw[hk]at q;exact q
      |inr known=>
       rw[hk]at q
       dsimp only at q ⊢
       intro b' as H5 st5 t5 e5 p5
       exact q b' as H5 e5 p5 t5
end
end U
namespace L2
open PySem
theorem zst{X:Cx}(K:qed){e:Expr}{f:Str}{pos:Pos}{ta:TE}(he:PE X e ta)(hb:attributeBase e f X.env (eval e X.env)=eval e X.env)(hK:X.K=K:=by rfl):PE X (.Attribute e f pos) (tXFld K ta f):=by
 subst hK
 exact qc4 he hb
end L2
namespace U
open PySem L2 Mir
open Kp169 (Bytes Known)
noncomputable def zfg(b:Bytes):List Int:=match zo0 b with
 |.inl x=>[1,x.1,(x.2:Int)]
 |.inr known=>[0,(known.length:Int)]
def zsf(K:qed)(ad:Ad):Sp:=λvs H Q E=>∃(p:Addr)(b:Bytes),vs=[.ref p]/\SqL K H p ((zn8 b).map V.int)/\TOk ad H/\∀r H',H' r=some (.lst ((zfg b).map V.int))->Q (.ref r) H'
section
variable{P:Program}{w:World}{K:qed}{mg:Str->Option Value}{base:Heap}{ad:Ad}
theorem zwy(T:Txt K mg ad)(hK:K.In base)(hB:base.BuiltinsAt mg ad.pNP):Ok P w K mg base 240 "un_read" ["t"] (zsf K ad):=by
 have O1:=qac (P:=P) (w:=w) T hK hB
 refine T.f_un_read.ok T.M c_un_read (λvs H Q E h=>?_) (λf cdv A outer s0 H vs Q E hr h=>?_)
 ·obtain⟨p,b,rfl,_⟩:=h
  rfl
 ·obtain⟨p,b,rfl,hp,ht,q⟩:=h
  refine⟨_,zac (ps_try (E:=λv odx H'=>∃(C dx:Addr)(n:Int)(k:Nat),v=.ref C/\odx=some dx/\zvd K C ad.R/\H' dx=some (xdo dx (xf n k))/\zo0 b=.inl (n,k)) (i:=2) rfl rfl T.rc rfl T.g_R c_un_read.nd rfl rfl
    (λpn E' th=>zaf (zap (i:=1) c_un_read.nd rfl (Or.inl rfl) (cN O1 hr th (zaa (pv 0) zae))))
    (λe=>zaf (zaq (zbx (zaa zan (zaa (zst K (pv 2) rfl) (zaa (zst K (pv 2) rfl) zae)))))))
   (zaf (zaq (zbx (zaa zan (zaa (za3 za7 rfl T.z_len (by decide +kernel) (zaa (pv 1) zae)) zae))))),?_⟩
  refine⟨?_,λe C dx σ' H' hl hE he=>?_⟩
  ·refine⟨_,rfl,p,b,rfl,hp,ht,?_⟩
   unfold zfg at q
   cases hr':zo0 b with
   |inl x=>
    dsimp only
    intro C dx H1 xc hd
    exact⟨C,dx,x.1,x.2,rfl,rfl,xc,hd,rfl⟩
   |inr known=>
    rw[hr']at q
    dsimp only at q ⊢
    intro b' as H1 e1 P1 t1
    have la:as.length=known.length:=Paired.length P1
    refine⟨_,rfl,b',_,rfl,.inl (SqL.of e1),(by show 2<=sizeLine;decide),λr nr=>?_⟩
    refine q r _ ?_
    rw[zad,qec,la]
    rfl
  ·obtain⟨C',dx',n,k,h1,h2,xc,hd,hrd⟩:=hE
   cases h1
   cases h2
   unfold zfg at q
   rw[hrd]at q
   have hdx:dx≠e:=zai hd he
   have h2v:(σ'.set 2 (some (V.ref e)))[2]?=some (some (V.ref e)):=by
    have:2<σ'.length:=by rw[hl];show 2<3;decide
    simp[this]
   refine⟨xc,?_⟩
   refine⟨_,h2v,e,C,ad.R,dx,_,_,rfl,zad,by rw[zah hdx];exact hd,xc,xc.nn,rfl,_,h2v,e,C,ad.R,dx,_,_,rfl,zad,by rw[zah hdx];exact hd,xc,xc.na,rfl,(by show 3<=sizeLine;decide),λr nr=>?_⟩
   exact q r _ zad
end
end U
namespace L2
open PySem PySem.Spec PyProof.Rows L3
def Back(out:List Int):VK:=λv H'=>∃r,v=.ref r/\H' r=some (.lst (out.map V.int))
theorem head_call{P:Program}{w:World}{K:qed}{mg mb:Str->Option Value}{k:Nat}{fa a P0 c0:Addr}{x:Str}{ps:List Str}{sp:Sp}{s₁:Shared}{its us:List Value}{vs:List V}{ns out:List Int}(KX:K.In s₁.heap)(hns:s₁.heap.Ns mainGlobals mg)(hb:s₁.heap.Ns builtinsNs mb)(hbb:∀x:Str,x≠"__name__"->mb x=bootBuiltins x)(hlim:s₁.heap.NoLimit)(hg:s₁.gens=#[])(ha:s₁.heap.get? a=some { cls:=.type "list",data:=.seq its.toArray })(hi:IntsAre its ns)(hl:ns.length<=sizeLine)(hr:Room k callerA)(hP:s₁.heap.get? P0=some { cls:=.none,data:=.fields #[] })(hC:PySem.W.CodeHd s₁.heap c0 P0)(hKP:K.lookup P0=none)(hBA:s₁.heap.BuiltinsAt mg P0)(hmg:mg x=some (.ref fa))(hlen:us.length=ps.length)(rvs:Vals vs us)(O:∀base:Heap,K.In base->base.BuiltinsAt mg P0->Ok P w K mg base k x ps sp)(hsp:∀H:Hp,SqL K H a (ns.map V.int)->H P0=some (.tbl #[])->sp vs H (Back out) λ_ _ _=>False) :
  codeAny (model P w) callerA (.call (.ref fa) ⟨us,[]⟩) (λr s'=>(∃(u:Addr)(rs:List Value)(n:Nat),r=.ok (.ret (.ref u))/\Vals (out.map V.int) rs/\s'.heap.get? u=some { cls:=.type "list",data:=.seq rs.toArray n })/\OldK s₁.heap s'.heap/\s'.os=s₁.os/\AllBare s'.gens) s₁:=by
 have rv:=zod hi
 have lenV:=hi.length
 have aP:a≠P0:=λz=>by subst z;rw[ha]at hP;cases hP
 have core:∀H:Hp,(∀b,b≠P0->H b=none\/∃o xs,H b=some (.frz o (.lst xs)))->H P0=some (.tbl #[])->SqL K H a (ns.map V.int)->HOk P w H s₁.heap->(∀b,H b≠none->b=a\/b=P0)->(H a≠none->K.lookup a=none) ->
   codeAny (model P w) callerA (.call (.ref fa) ⟨us,[]⟩) (λr s'=>(∃(u:Addr)(rs:List Value)(n:Nat),r=.ok (.ret (.ref u))/\Vals (out.map V.int) rs/\s'.heap.get? u=some { cls:=.type "list",data:=.seq rs.toArray n })/\OldK s₁.heap s'.heap/\s'.os=s₁.os/\AllBare s'.gens) s₁:=by
  intro H hO hT hS hok hA hK
  have base_of:∀{b:Addr}{o:Obj},s₁.heap.get? b=some o->H b=none->(zy8 s₁.heap H).get? b=some o:=λe n=>qa1 e n
  have noA:∀{b:Addr}{o:Obj},s₁.heap.get? b=some o->(∀v n,o.data≠.seq v n)->(∀v,o.data≠.fields v)->H b=none:=λ{b o} e d1 d2=>by
   cases q:H b with
   |none=>rfl
   |some u=>
    rcases hA b (by rw[q];simp) with e'|e'
    ·subst e'
     rw[ha]at e;cases e
     exact absurd rfl (d1 _ _)
    ·subst e'
     rw[hP]at e;cases e
     exact absurd rfl (d2 _)
  have nsK:∀{b:Addr}{m:Str->Option Value},s₁.heap.Ns b m->(zy8 s₁.heap H).Ns b m:=λ{b m} ⟨o,es,ep,e,d,r⟩=>⟨o,es,ep,base_of e (noA e (λv n z=>by rw[d]at z;cases z) (λv z=>by rw[d]at z;cases z)),d,r⟩
  have hKb:K.In (zy8 s₁.heap H):=λb o e=>base_of (KX b o e) (by
   cases q:H b with
   |none=>rfl
   |some u=>
    rcases hA b (by rw[q];simp) with e'|e'
    ·subst e'
     rw[hK (by rw[q];simp)]at e;cases e
    ·subst e'
     rw[hKP]at e;cases e)
  have hBb:(zy8 s₁.heap H).BuiltinsAt mg P0:=by
   obtain⟨bm,o,b1,b2,b3,b4,b5,b6,b7,b8⟩:=hBA
   exact⟨bm,o,b1,b2,b3,b4,base_of b5 (noA b5 (λv n z=>by rw[b8]at z;cases z) (λv z=>by rw[b8]at z;cases z)),b6,b7,b8⟩
  have hM:Mod K mg (zy8 s₁.heap H):=⟨hKb,nsK hns,⟨mb,nsK hb,hbb⟩,let ⟨mc,h1,h2⟩:=hlim;⟨mc,nsK h1,h2⟩⟩
  have e0:Env0 P w K mg (zy8 s₁.heap H) callerA [] s₁ H:=⟨rfl,hM,λb o e=>qdp e,qg5 (zx5 _ _),trivial,λb hb=>absurd (show b∈([]:List Addr) from hb) (by simp),hok,.of_eq hg⟩
  obtain⟨f',fd',hm',hk',hb',F⟩:=O _ hKb hBb
  rw[hmg]at hm'
  cases hm'
  have bnd:=hb' s₁ us KX (by rw[qfe];exact hlen)
  rw[qfe]at bnd
  refine codeAny_mono (F.run callerA [] s₁ H ⟨us,[]⟩ us vs _ _ hr e0 bnd rvs (hsp H hS hT)) λr s' h=>?_
  cases r with
  |error e=>
   obtain⟨e',C,dx,T,H',_,_,_,_,_,_,z⟩:=h
   exact z.2.2.elim
  |ok fl=>
   cases fl with
   |next=>exact False.elim h
   |brk=>exact False.elim h
   |cont=>exact False.elim h
   |ret u=>
    obtain⟨v,H',os,bare,un,hok',r',q⟩:=h
    obtain⟨rr,rfl,hrr⟩:=q
    obtain rfl:u=Value.ref rr:=r'
    obtain⟨_,rs,n,hvs,hob⟩:=hok' rr _ hrr
    refine⟨⟨rr,rs,n,rfl,hvs,hob⟩,⟨λb o e=>?_,λb o e=>?_⟩,os,bare⟩
    ·by_cases hb0:b=P0
     ·subst hb0
      obtain⟨more,e1⟩:=un.tbls _ _ hT
      have e2:=hok' _ _ e1
      rw[hP]at e;cases e
      obtain⟨oc,vs',file,tf,flags,tg,inF,text,tt,g1,g2,g3,g4,_⟩:=hC
      exact .inr (.inl ⟨⟨c0,oc,vs',g1,g2,g3,g4⟩,rfl,#[],more,rfl,e2⟩)
     ·refine .inl ?_
      cases q:H b with
      |none=>exact un.keep b o e q (by intro z;exact absurd (show b∈([]:List Addr) from z) (by simp)) (by simp)
      |some u=>
       rcases hO b hb0 with z|⟨ob,xs,z⟩
       ·rw[q]at z;cases z
       ·have z2:=un.frzs b ob _ z
        obtain⟨e1,_⟩:=hok b _ z
        obtain⟨e2,_⟩:=hok' b _ z2
        rw[e]at e1;cases e1
        exact e2
    ·exact un.there b o e (by simp)
 cases hk:K.lookup a with
 |some o=>
  have e:=KX a o hk
  rw[ha]at e
  cases e
  refine core (λb=>if b=P0 then some (.tbl #[]) else none) (λb hb=>.inl (if_neg hb)) (if_pos rfl) (.inr ⟨_,its.toArray,_,hk,rfl,rfl,rfl,by rw[qet,lenV];exact hl,by simpa using rv⟩) (λb u z=>?_) (λb z=>?_) λz=>absurd (if_neg aP) z
  ·by_cases hb:b=P0
   ·have z':=(if_pos hb).symm.trans z
    cases z'
    subst hb
    exact hP
   ·have z':=(if_neg hb).symm.trans z
    cases z'
  ·by_cases hb:b=P0
   ·exact .inr hb
   ·exact absurd (if_neg hb) z
 |none=>
  refine core (λb=>if b=P0 then some (.tbl #[]) else if b=a then some (.frz { cls:=.type "list",data:=.seq its.toArray } (.lst (ns.map V.int))) else none) (λb hb=>?_) (if_pos rfl) (.inl (.inr ⟨{ cls:=.type "list",data:=.seq its.toArray },(if_neg aP).trans (if_pos rfl)⟩)) (λb u z=>?_) (λb z=>?_) λ_=>hk
  ·rw[if_neg hb]
   by_cases hba:b=a
   ·exact .inr ⟨_,_,if_pos hba⟩
   ·exact .inl (if_neg hba)
  ·by_cases hb:b=P0
   ·have z':=(if_pos hb).symm.trans z
    cases z'
    subst hb
    exact hP
   ·have z1:=(if_neg hb).symm.trans z
    by_cases hba:b=a
    ·have z':=(if_pos hba).symm.trans z1
     cases z'
     subst hba
     exact⟨ha,by rw[qec];exact hl,its,_,rv,ha⟩
    ·have z':=(if_neg hba).symm.trans z1
     cases z'
  ·by_cases hb:b=P0
   ·exact .inr hb
   ·by_cases hba:b=a
    ·exact .inl hba
    ·exact absurd ((if_neg hb).trans (if_neg hba)) z
end L2
namespace U
open PySem L2 Mir PySem.W PyProof.Rows
open Kp169 (Bytes Known)
theorem zua{b:Bytes}(h:¬8192<b.length):(match Kp169.read b with|.inl x=>.inl x|.inr y=>.inr y.2)=zo0 b:=by
 unfold zo0
 rw[if_neg h,zwg]
 cases Kp169.tokens b with
 |none=>rfl
 |some ts=>
  dsimp only
  by_cases h2:2048<ts.length
  ·rw[if_pos h2,if_pos h2]
  ·rw[if_neg h2,if_neg h2]
   cases Kp169.sheetOf ts with
   |none=>rfl
   |some l=>
    dsimp only
    cases zjz l <;> rfl
theorem zzw{b:Bytes}{l:List zbk}{q:Known}(h:Kp169.read b=.inr (l,q)):q.length=l.length:=by
 rw[zwg]at h
 cases ht:Kp169.tokens b with
 |none=>rw[ht]at h;cases h
 |some ts=>
  rw[ht]at h
  dsimp only at h
  by_cases h2:2048<ts.length
  ·rw[if_pos h2]at h;cases h
  ·rw[if_neg h2]at h
   cases hs:Kp169.sheetOf ts with
   |none=>rw[hs]at h;cases h
   |some m=>
    rw[hs]at h
    dsimp only at h
    cases hq:zjz m with
    |inl x=>rw[hq]at h;cases h
    |inr k=>
     rw[hq]at h
     cases h
     unfold zjz at hq
     cases hc:zb8 0 0 l with
     |some k=>rw[hc]at hq;cases hq
     |none=>
      rw[hc]at hq
      dsimp only at hq
      cases hr:zcd [] l with
      |some k=>rw[hr]at hq;cases hq
      |none=>
       rw[hr]at hq
       have:=zm0 l [] 0 0 q hq
       simpa using this
theorem zxj{ns:List Int}(h:∀z∈ns,0<=z):zn8 (ns.map qhx)=ns:=by
 show (ns.map qhx).map (λ(n:Nat)=>(n:Int))=ns
 rw[qh7]
 conv=>rhs;rw[<-List.map_id ns]
 refine qf2 λz hz=>?_
 have:=h z hz
 simp;lia
theorem sp_tab{ad:Ad}{H:Hp}(h:H ad.pNP=some (.tbl #[])):TOk ad H:=⟨#[],h,trivial,.inl rfl⟩
theorem qao{K:Frag}{mg mb:Str->Option Value}{ad:Ad}{q:Program}{loose:List Str}{mean:ExcName->Option Value}{h:Heap}(T:Txt K mg ad)(TP:Top q loose mean mg mb h)(KX:K.In h)(hm:((recsOf q).any λe=>e.name == "nearest_place")=true) :
  h.get? ad.pNP=some { cls:=.none,data:=.fields #[] }/\CodeHd h ad.cNP ad.pNP:=by
 obtain⟨d,hd,hn⟩:=List.any_eq_true.mp hm
 have hn:d.name=("nearest_place":Str):=beq_iff_eq.mp hn
 obtain⟨a,o,fd,c',P',h1,h2,h3,h4,h5,h6⟩:=TP.tab d hd
 obtain⟨f,oc,od,kV,doc,pm,an,ct,osl,e1,e2,_,_,_,e3⟩:=T.c_np
 have g1:=T.M.m _ _ e1
 rw[hn,g1]at h1
 cases h1
 have g2:=KX _ _ e2
 rw[h2]at g2
 cases g2
 cases h3
 cases h4
 have C:=e3 h KX
 refine⟨?_,C⟩
 obtain⟨o',vs,file,tf,flags,tg,inF,text,tt,c1,c2,c3,c4,_⟩:=C
 obtain⟨⟨oc',vs',d1,d2,d3,d4⟩,d5⟩:=h6
 rw[c1]at d1
 cases d1
 rw[c3]at d3
 cases d3
 rw[c4]at d4
 cases d4
 exact d5
theorem zq3{mg mb:Str->Option Value}{q:Program}{loose:List Str}{mean:ExcName->Option Value}{h:Heap}{P0:Addr}(TP:Top q loose mean mg mb h)(hP:h.get? P0=some { cls:=.none,data:=.fields #[] }):h.BuiltinsAt mg P0:=by
 obtain⟨bm,ob,b1,b2,b3,b4,b5,b6⟩:=TP.bmain
 refine⟨bm,ob,b1,b2,λz=>?_,λz=>?_,b3,b4,b5,b6⟩
 ·obtain⟨o,es,ep,e,hd,_⟩:=TP.g
  rw[z,e]at b3;cases b3;rw[hd]at b6;cases b6
 ·rw[z,hP]at b3;cases b3;cases b4
theorem zmk{cl:Str->Option Addr}{h:Heap}:∀{out:List Int}{rs:List Value},Vals (out.map V.int) rs->ReadsAllW [] cl h rs (out.map WData.int) []
 |[],rs,r=>by
  rw[qhq]at r
  cases r
  exact .nil
 |i::out,rs,r=>by
  rw[qfh]at r
  cases r with
  |cons r1 r2=>
   obtain⟨t,rfl⟩:=r1
   exact ReadsAllW.cons (as:=[]) (bs:=[]) (.int i t) (zmk r2)
theorem zz6(ns:List Int):PyKp169.un_read ns=zfg (ns.map qhx):=by
 show Kp169Neutral.wrKp169_Ans (Kp169.answer (.read (if ns.length<=8192 then some (ns.map qhx) else none)))=_
 by_cases h:ns.length<=8192
 ·rw[if_pos h]
  have hb:¬8192<(ns.map qhx).length:=by rw[qec];lia
  have e:=zua hb
  unfold zfg
  rw[<-e]
  show Kp169Neutral.wrKp169_Ans (match Kp169.read (ns.map qhx) with|.inl x=>.at_ x.1 x.2|.inr x=>.num (x.1.length:Nat))=_
  cases hr:Kp169.read (ns.map qhx) with
  |inl x=>rfl
  |inr y=>
   obtain⟨l,q⟩:=y
   have:=zzw hr
   show [0,((l.length:Nat):Int)]=[0,((q.length:Nat):Int)]
   rw[this]
 ·rw[if_neg h]
  unfold zfg zo0
  rw[if_pos (by rw[qec];lia)]
  rfl
theorem walk_s01{q:Program}{loose:List Str}{XP:(Str->Option Value)->Heap->Prop}{YP:World->Heap->Prop}{d:DefRec}{K:Params->Frag}(hdn:d.name=("un_read":Str))(hm:((recsOf q).any λe=>e.name == "nearest_place")=true)(hY:∀(w:World) (h:Heap),YP w h->(K w.params).In h)(F:∀(w:World) (mg:Str->Option Value) (h:Heap),(K w.params).In h->h.Ns mainGlobals mg->∃ad,Txt (K w.params) mg ad/\(K w.params).lookup ad.pNP=none) :
  WalkOS q loose XP YP PySem.Challenge.rw_sheetunits_s01_un_read d [] (λf vs=>PySem.call f vs):=by
 intro w s₀ s₁ mg mb G Y fa o pm cd doc dV kV ho hd hcd hD hmg hg args vals as hpre hlay hrd hwl hlo
 have KX:=hY w _ Y
 obtain⟨ad,T,hKP⟩:=F w mg _ KX G.T.g
 obtain⟨hP,hC⟩:=qao T G.T KX hm
 rw[hdn]at hmg
 have hpre':=hpre
 unfold OpenSpec.pre at hpre'
 cases ea:Codec.decAll PySem.Challenge.rw_sheetunits_s01_un_read.args args with
 |none=>rw[ea]at hpre';cases hpre'
 |some av=>
  obtain⟨e1,e2⟩:=Codec.encAll_of_decAll _ _ _ ea
  obtain⟨ns,un⟩:=av
  have e1:args=[.list (ns.map WData.int)]:=e1
  have e2:(Codec.inList 0 8300 (Codec.inInt (Int.ofNat 0) (Int.ofNat 255)) ns && true)=true:=e2
  rw[qis]at e2
  have e3:=Codec.and_of e2
  have e4:=Codec.inNat_iff.mp e3.1
  have e5:∀z∈ns,0<=z:=λz hz=>(Codec.inInt_iff.mp (qeo.mp e3.2 z hz)).1
  subst e1
  cases hwl with
  |cons w1 w2=>
   cases w2
   cases w1 with
   |list hobj hall=>
    have hints:=Att.ints_of_wellAll ns _ hall
    have hlen:ns.length<=8300:=e4.2
    refine PySem.W.enter_call (codeAny_mono (L2.head_call (out:=zfg (ns.map qhx)) (sp:=zsf (K w.params) ad) (ps:=["t"]) (vs:=[.ref _]) (k:=240) KX G.T.g G.T.b G.T.builtins G.T.nolimit hg hobj hints (L2.big (by lia)) ⟨rfl,by decide,by decide⟩ hP hC hKP (zq3 G.T hP) hmg rfl (.cons rfl .nil)
     (λbase kb bb=>zwy T kb bb) (λH hS hT=>⟨_,ns.map qhx,rfl,by rw[zxj e5];exact hS,sp_tab hT,λr H' e=>⟨r,rfl,e⟩⟩)) λr s' hq=>?_)
    obtain⟨⟨u,rs,n,rfl,hvs,hob⟩,h2,h3,h4⟩:=hq
    refine⟨.inl ⟨.ref u,.list ((zfg (ns.map qhx)).map WData.int),_,rfl,λ_=>rfl,ReadsW.list hob rfl rfl (by show ReadsAllW [] _ _ _ _ _;exact zmk hvs),?_,λz=>by cases z⟩,h2,h3,h4⟩
    show OpenSpec.post PySem.Challenge.rw_sheetunits_s01_un_read _ _=true
    unfold OpenSpec.post
    rw[ea]
    refine same_iff.mpr ?_
    show _=WData.list ((PyKp169.un_read ns).map WData.int)
    rw[zz6]
end U
open PySem PySem.W PyProof.Rows L2 U
namespace U
theorem ad_mk{K:qed}{mg:Str->Option Value}{a0 a1 a2 a3 a4 a5 a6 a7:Addr}(h:Txt K mg ⟨a0,a1,a2,a3,a4,a5,a6,a7⟩)(o:K.lookup a7=none):∃ad,Txt K mg ad/\K.lookup ad.pNP=none:=⟨_,h,o⟩
end U
structure PySem.W.Fast:Prop where
 (tw12794557096742082410 tw1793978091040300730 tw13723895463150128383 tw12657087084573731434 tw6083254884823858475 tw15125538256976823115 tw8472985824033462038 tw1840610695803704676 tw2468961120724853245 tw2051888084567535162 tw8800748052389904642 tw11467752400479752912 tw10192421952315733752 tw18016135644174219296 tw1399407790774133305 tw5265772531441118189 tw6489935786990602627 tw18110830172586051910 tw6402264929331378879 tw15420354064522195445 tw2346453941801225474 tw1938965355709001736 tw16414378775093842274 tw9707343370045148806 tw15207460837159038685 tw10511688054175711595 tw13023552472589393507 tw15468607659094369969 tw6076364564801590270 tw8431777045138094719 tw12929382165490088988 tw4286842109361281237 tw7944518545981212487 tw10788451488456309502 tw1818531250357275234 tw4607182205450107384 tw9606048661788674455 tw9288558634017751464 tw7386619853846989492 tw3731333393131837666 tw10067572332998395777 tw2377642060978256243 tw7028783624885641162 tw7084625200826456737 tw2467159815947097935 tw16345087244006212756 tw10819313419161275129 tw7807266700684308397 tw13744617569152728640 tw7241128416482359287 tw15765318595743457362 tw16704124780706328420 tw5202757336039774667 tw5265965433809142325 tw17921955936560890255 tw5115550170706050800 tw17638163861819083064 tw6315701163524429209 tw1075326714556338939 tw2876792648328270427 tw14591826824654107620 tw1618517442185111182 tw2884819698094804018 tw1727306586944539952 tw6483212701065331544 tw3791014134162103371 tw3824707351192507340 tw15518037573387142777 tw11974962793247117381 tw8581947985354138718 tw6666491823456743954 tw1883295979281650789 tw7798861336230998651 tw3851926598167564953 tw3275488704568626381 tw8949705401452088677 tw4875794336691021083 tw12655777044703442484 tw2595628994538353859 tw12923227599395769906 tw9219595858903712988 tw4164250683276490543 tw2984957454669448584 tw12315388055065890554 tw378228310059909420 tw16377302583589975449 tw4052376693862772961 tw10044230808790045071 tw18444937201729580981 tw7789391702350025069 tw1372527427026798036 tw352735513538130533 tw13497978234829352637 tw7567910231406912393 tw563662935928867010 tw13142177671017834446 tw10077941471149164530 tw15702220058824982528 tw4275169966250494975 tw14704623172801181521 tw3721573775801853851 tw7391090707267064670 tw10528341949268833863 tw1029461024670622369 tw4627203837655089833 tw7030574443328158648 tw7955068991330240643 tw12427437512893088047 tw3157183050897940642 tw11370142925544750100 tw15289798111515355929 tw9316251523101738326 tw4414646962277741894 tw13097127597248152265 tw9781639916703948676 tw9876346118989802156 tw14517167969862917147 tw9114108383351586020 tw8002236550551945746 tw17431670872728061927 tw8254791075350952831 tw8406465903347512297 tw10667604854467501878 tw16225881102469795905 tw14092801409005953076 tw10892722173716580811 tw15964314767857980677 tw9151999561549584549 tw8793546838724296425 tw15830729264014386792 tw6054846389022908609 tw6753014434232694828 tw336385575132504263 tw10585828900823022742 tw4423972374088164035 tw15485032912266574473 tw1459185951364657355 tw13470132579713628337 tw9799102749297235601 tw3927433756120173007 tw4078180553104337044 tw11816947275493548065 tw1416807847326406288 tw2063296491586439318 tw1945266256269666824 tw11458438848552221233 tw12504617184365847978 tw5955377894922161936 tw15096637739416126341 tw12427239299922480570 tw6191993255890119909 tw2984444443394202819 tw4577623102821481907 tw1960890735404888492 tw5558823168239786229 tw1491115517764377482 tw2284702730383182999 tw3083872880294974004 tw3114640014636469720 tw17077609650800430659 tw3565508581298997136 tw7516491967009052361 tw5533319711002228817 tw2347809287015947173 tw5447924567013916166 tw5744847948238999610 tw1304757728681383705 tw7732897404909384992 tw1842622469425833421 tw17439140376281644498 tw8322218874509031441 tw15168185988961018249 tw13489749951561850963 tw11865301603671234032 tw13899797056758948621 tw4548441292312673192 tw7249251051623333766 tw12297062795354142656 tw13182578046558800582 tw13016915790376631272 tw6588718857128350866 tw17597236009403917884 tw6511650920338052232 tw2439517608211910443 tw343214787100158271 tw7616525095777540302 tw1110906000054142276 tw1617394888853107175 tw10825508935471117663 tw16553652181038684714 tw13121290300435439790 tw3974656209897463793 tw4977586705172180402 tw6040948024268041866 tw17188547910064383734 tw3024278691997454171 tw1260834063783342258 tw3104424243079001002 tw13744408266010349583 tw11002781425304377776 tw777245132977489094 tw1331746883950481384 tw2603594628096860093 tw5875302319165890137 tw8321879834451503790 tw1557219135465621724 tw2942144810142637191 tw11283932882184389006 tw11640517449260151982 tw16101381175118137516 tw10530514305358494805 tw6054048850996740951 tw4375877259499644012 tw10974890018731717332 tw7580422811043805097 tw10221537876662651942 tw4997885783461655929 tw12202566385669901345 tw4256493532858044400 tw11212483689244004722 tw12257427351475965949 tw5853970325748901372 tw6529909458082107011 tw17807203406455509793 tw14558070834532039396 tw8078455317454399456 tw245835014347572812 tw9100783455754392903 tw9281528670178371657 tw12708579799331590764 tw7963798525764644777 tw10699047251092209286 tw6171179913155676599 tw17991238509693028779 tw13148039045093521754 tw13896960324947603861 tw10132462475276073465 tw18425714489218846856 tw15114004752635258108 tw9768896367894195065 tw13763822064238260838 tw11560917581003447768 tw152889377962559984 tw18301608479376003827 tw6625891361512604766 tw4026528539632469100 tw5293511782221273089 tw11535326350764122007 tw17550980158241126882 tw14183789188289529028 tw11288141496295629994 tw11736495231035627946 tw2845849759323558011 tw10574152713196323888 tw6986086416708080462 tw12377799925431211027 tw3373336542164428248 tw14180760256549532434 tw16177354152333692870 tw6857785961715464192 tw10826797666625355513 tw10877349636382799945 tw573410700198573175 tw14672617206294297128 tw17247390827357849604 tw18229952713717851070 tw9835938458507775634 tw3174767362205899090 tw2068660899546559293 tw17385267047538890713 tw8932496103586035145 tw13114697934644425545 tw8340068973776106156 tw10056503219167524902 tw6044339243257100987 tw9321784781556015437 tw16000854408062618559 tw18171075933957669346 tw2312732755484637453 tw15913310642318432624 tw12049755350744882404 tw12573999475688318388 tw5152035967805989312 tw11967964225502003997 tw4546041374943281481 tw3446425982002041639 tw14439852659702338744 tw7505793383307485689 tw16430949661948947440 tw1026410785352102535 tw16576393348715389778 tw8350210786905113406 tw1500771082792244079 tw16312440209482094681 tw3828604756016966047 tw855035461445856970 tw17418834668390199511 tw6356911307181488701 tw8731624477309666051 tw11481775209129928989 tw10776882979906687124 tw10827754922705644371 tw14883244327818529041 tw10784931087487665558 tw1470517937692907343 tw3340154620992422294 tw15268961945790684211 tw5811958373839235662 tw6352953414257508527 tw11863875324710198865 tw12305860381146406804 tw5503061369335826297 tw1026965421557536411 tw7706341733206957367 tw13753832725051859146 tw3687419630592849293 tw10517054263426976827 tw15514034290588936872 tw10771229516609835802 tw3633892288229982189 tw1420883920054550072 tw9129538984424200900 tw17899493267751874609 tw14039051613325979697 tw5105180841818431841 tw6966248618952404780 tw12823548893684336807 tw14520099953108922846 tw13476893351400993796 tw2122277640403457631 tw7587232858103637002 tw4209919379712640202 tw5501338754915463373 tw7151132912890545072 tw4062002241495112667 tw691377552430917037 tw8220010204938201148 tw14872828122195010109 tw5965476159291017693 tw10643212702525584502 tw2911494674072253901 tw15843363702295763153 tw10739990214781590506 tw9192872401665233527 tw11310029855925479574 tw6221216528723726801 tw10832568865875665766 tw10868880041085559242 tw16638606892443792532 tw15904123677906094378 tw15180894609392905699 tw8605022573801267108 tw13145068851172278206 tw3573854216842888915 tw1583672139378583411 tw2013475397401583440 tw4985469023443676237 tw1617915393045673292 tw14306523627187767679 tw17949011456361835796 tw8252278447600965051 tw10188303022892864399 tw4381312065341383624 tw1059688883842898645 tw12019311435341167766 tw13443676920080845888 tw8691277512163842898 tw10745999187018473535 tw11597712120819326606 tw3636116282265870452 tw8696563211070161658 tw8406836075945902207 tw5691564946736567286 tw6878315726048776677 tw1504671431780477280 tw18409378874193415533 tw8225444045678352049 tw5280323046493375481 tw13419232855789587490 tw16690895656116534713 tw12368489923383689965 tw16853196343893237163 tw5437319875879504729 tw13990614103951720164 tw14858464906729324352 tw9324698914120471134 tw1271048620316754736 tw5580689267316830370 tw13316164107817908575 tw2393999917069931782 tw13815683853794517117 tw8173917517606790179 tw11176248594437268902 tw13892393171460848687 tw1086876456092268638 tw12123952523713265628 tw8196032113034280590 tw7608969743799186519 tw2262307728048572306 tw1575379252446004594 tw1467201345855606256 tw1555724237382578155 tw9659981618423429754 tw15557441886865157353 tw7179676683041828740 tw2249477611795206024 tw2289305578349571933 tw17120030617299458854 tw17527990908264166203 tw14180217335756499582 tw12881567346317676851 tw1255062504044420126 tw12274668486126313805 tw8678767698053133896 tw12726654993067495 tw9501370759185125062 tw8905452931684656650 tw15766092122154805508 tw17921476289233796775 tw9471085918407630901 tw17567854064362940245 tw5521328014390154456 tw5285630319180134071 tw13679142324730616812 tw12684852976777924595 tw2335832714973345493 tw815342374880490782 tw16596455460316359328 tw14491075210879891951 tw11802854456176830886 tw12111939767368737465 tw9250809739412060001 tw6183798435193245988 tw1375196639030359134 tw11534068199409554535 tw16746242294336336703 tw12675938275558171517 tw12519733411383135202 tw9364176826914219264 tw6491057452287316330 tw1576760886206112598 tw9183108275487520480 tw4759353822656728407 tw870352333377333910 tw2669528753351150784 tw2594439988106850346 tw1792428589211538399 tw15370024740255922193 tw4785151262285819316 tw2429287022726762424 tw4699913987334073728 tw10963959258697939755 tw8222580844359590373 tw16078057976522350708 tw613622533968909950 tw17184669063383697017 tw9637202574890645310 tw14890008707581290762 tw9239689126750945957 tw14858433225392480529 tw6707986952743658497 tw16803265663281366658 tw13244714154807511440 tw6342829166043260358 tw15424041423640530489 tw2253612807648278405 tw163801593011148076 tw18039116211766939398 tw1633639427832026655 tw13132157425698323627 tw6604951176208702073 tw8473002158642190135 tw144487364125177576 tw7333265435156526604 tw18321318165141801968 tw11877000740831947142 tw11446047845760566520 tw242377677044040769 tw12685490186752171135 tw5563652771282276453 tw12431648079412476366 tw5330290405796850645 tw13675379671106919771 tw6172671805275801932 tw11685270819685786461 tw5335417320937094527 tw14246681949799437917 tw17343946326663168240 tw4828468771389391482 tw17114251839799482221 tw6363831396906077199 tw17990057584788808200 tw1774366702846964805 tw2178925675502069162 tw4348402745598254892 tw4337038349459349548 tw15000056744385573229 tw16888273708229482575 tw4520689645270275295 tw15904155913341291274 tw2286331173896304750 tw6050599438942634464 tw13314531335686235956 tw16196589080231004412 tw7055872860503390304 tw2476571444668072103 tw16910231255947024253 tw6111539573186288405 tw9831536505691958740 tw6109881404367580249 tw11319848157717252208 tw8826179491424896581 tw15128462465295974756 tw10060226411141008188 tw17731637973547119818 tw12197455230942662046 tw12256366083507427736 tw1171097398899198413 tw17737443131912943749 tw158798797346085073 tw13078937884049424648 tw7562508572218214646 tw253060006561284425 tw15293925657906439926 tw4062994128201466778 tw1733321684096348197 tw12519755885562301415 tw6897773283414823103 tw17662981709353375736 tw17218423594203985302 tw3611219405604257285 tw4991015120810392705 tw8230020625172940161 tw1543291154401180404 tw4005824046855367103 tw16460055889128758810 tw13575212670772801190 tw15903548429125339926 tw17450159736642849090 tw14926387695736071684 tw9314374181992556576 tw9511130770989555101 tw16445450832983169860 tw6828037578348258699 tw5335157648101524457 tw17132348536738752848 tw5722427005784611866 tw5608109560962297711 tw5958402940296140628 tw11538533137076167789 tw7445865627842455281 tw2535117949158266035 tw9254798435755671614 tw2925368710765773759 tw10961031518142356025 tw16687637067364775932 tw16758726493801793585 tw17095299405274922877 tw14124754928973541083 tw6056176762556186388 tw7691498132032358318 tw8407714327046599977 tw7428395368310522614 tw15963795369238500015 tw10832903564850962886 tw1192956436631915656 tw9432519061471862244 tw11967184746713702678 tw2084477655567385086 tw6681771326394215259 tw10730970352164711976 tw15565016749753556507 tw3551175625097581157 tw16349879607513519653 tw13681213669073672356 tw7280291900893575703 tw9448166613169543809 tw8751704837346978161 tw4588597411923910907 tw15287399185943211683 tw12970098251710045041 tw14778557835819328517 tw11480386127939015121 tw16161388339983443457 tw17172731459436117892 tw7811903981056301958 tw11069533725040595500 tw9715528780968987703 tw11852725579358920807 tw2063696981213154421 tw10362104208111863276 tw2381091991394172722 tw1950501942239505977 tw8341459258438335107 tw11748326911824623196 tw2518131224974929496 tw9730415676966647826 tw17932943685472369278 tw8545940968993931219 tw13602775527823235376 tw7883778281695775504 tw5609474363926080753 tw17874787767523216443 tw17499629826083314195 tw4374897645028658110 tw455830247394698264 tw3750237279798621772 tw9658596833719300310 tw7848656162104964797 tw7194743543792708292 tw8365634163450144566 tw11302477616671489786 tw11834016147999437632 tw12130811200833942459 tw3777344545721374433 tw255465342539860771 tw12314218759951374488 tw12935571732156985594 tw7512889450332834904 tw9258913599419652876 tw5269268186787165773 tw5329301496145544936 tw1273112462829743323 tw15323489474798767376 tw2904997627199112878 tw7991094372691151189 tw1093754122127365587 tw14718246512560938548 tw1218026043538211652 tw13532140700887224696 tw794155541962112316 tw4110928205169169015 tw9705837416879511252 tw6007368038856611435 tw6878548895060719661 tw9864029516267787582 tw18104189854599020186 tw18274482536449684907 tw2319286620920739793 tw14307647540871899448 tw565020318440992513 tw859951689973609813 tw7761656350057923079 tw15746230624037126789 tw835235954002070400 tw16111188188241619265 tw5788898419533703991 tw14571256650171407750 tw5914864210836464800 tw13474338826699400094 tw3994320428770755387 tw8681456923758132569 tw9095372724046622319 tw13176102717226016035 tw4310359249689534689 tw9146914414213127328 tw11362559402489016255 tw10244750752713055348 tw18265451075940214220:True)
set_option maxRecDepth 100000 in
set_option maxHeartbeats 0 in
theorem PySem.Challenge.cw_sheetunits_s01_un_read_holds : PySem.Challenge.rw_sheetunits_s01_un_read.Holds := by
 w_on;k_headS;(case hw=>exact⟨[.list []],by decide +kernel,by decide +kernel⟩)
 k_fillS
 refine U.walk_s01 rfl (by decide +kernel) (λw h Y=>PySem.W.kIn_of Y) ?F
 case F=>
 intro w mg h KX G
 refine' U.ad_mk ?main ?out
 case main=>
  constructor
  all_goals try dsimp only
  ·exact⟨λx v e=>qgn KX G e,λx e=>qfo KX G e⟩
  ·refine' zbq ?a ?l ?c ?k ?b;(case a=>k_is);(case l=>k_is);(case c=>k_is);(case k=>k_is);(case b=>exact λ_ _ _ _ _ _=>zjn λ_=>rfl)
  ·refine' zbq ?a ?l ?c ?k ?b;(case a=>k_is);(case l=>k_is);(case c=>k_is);(case k=>k_is);(case b=>exact λ_ _ _ _ _ _=>bnd0 rfl)
  ·refine' zbq ?a ?l ?c ?k ?b;(case a=>k_is);(case l=>k_is);(case c=>k_is);(case k=>k_is);(case b=>exact λ_ _ _ _ _ _=>zjn λ_=>rfl)
  ·refine' zbq ?a ?l ?c ?k ?b;(case a=>k_is);(case l=>k_is);(case c=>k_is);(case k=>k_is);(case b=>exact λ_ _ _ _ _ _=>zjn λ_=>rfl)
  ·refine' zbq ?a ?l ?c ?k ?b;(case a=>k_is);(case l=>k_is);(case c=>k_is);(case k=>k_is);(case b=>exact λ_ _ _ _ _ _=>ze1 λ_ _=>rfl)
  ·refine' zbq ?a ?l ?c ?k ?b;(case a=>k_is);(case l=>k_is);(case c=>k_is);(case k=>k_is);(case b=>exact λ_ _ _ _ _ _=>ze1 λ_ _=>rfl)
  ·refine' zbq ?a ?l ?c ?k ?b;(case a=>k_is);(case l=>k_is);(case c=>k_is);(case k=>k_is);(case b=>exact λ_ _ _ _ _ _=>ze1 λ_ _=>rfl)
  ·refine' zbq ?a ?l ?c ?k ?b;(case a=>k_is);(case l=>k_is);(case c=>k_is);(case k=>k_is);(case b=>exact λ_ _ _ _ _ _=>ze1 λ_ _=>rfl)
  ·refine' zbq ?a ?l ?c ?k ?b;(case a=>k_is);(case l=>k_is);(case c=>k_is);(case k=>k_is);(case b=>exact λ_ _ _ _ _ _=>zjn λ_=>rfl)
  ·refine' zbq ?a ?l ?c ?k ?b;(case a=>k_is);(case l=>k_is);(case c=>k_is);(case k=>k_is);(case b=>exact λ_ _ _ _ _ _=>zjn λ_=>rfl)
  ·refine' zbq ?a ?l ?c ?k ?b;(case a=>k_is);(case l=>k_is);(case c=>k_is);(case k=>k_is);(case b=>exact λ_ _ _ _ _ _=>ze1 λ_ _=>rfl)
  ·refine' zbq ?a ?l ?c ?k ?b;(case a=>k_is);(case l=>k_is);(case c=>k_is);(case k=>k_is);(case b=>exact λ_ _ _ _ _ _=>ze1 λ_ _=>rfl)
  ·refine' zbq ?a ?l ?c ?k ?b;(case a=>k_is);(case l=>k_is);(case c=>k_is);(case k=>k_is);(case b=>exact λ_ _ _ _ _ _=>ze1 λ_ _=>rfl)
  ·refine' zbq ?a ?l ?c ?k ?b;(case a=>k_is);(case l=>k_is);(case c=>k_is);(case k=>k_is);(case b=>exact λ_ _ _ _ _ _=>zjn λ_=>rfl)
  ·refine' zbq ?a ?l ?c ?k ?b;(case a=>k_is);(case l=>k_is);(case c=>k_is);(case k=>k_is);(case b=>exact λ_ _ _ _ _ _=>ze1 λ_ _=>rfl)
  ·refine' zbq ?a ?l ?c ?k ?b;(case a=>k_is);(case l=>k_is);(case c=>k_is);(case k=>k_is);(case b=>exact λ_ _ _ _ _ _=>qa8 λ_ _ _=>rfl)
  ·refine' zbq ?a ?l ?c ?k ?b;(case a=>k_is);(case l=>k_is);(case c=>k_is);(case k=>k_is);(case b=>exact λ_ _ _ _ _ _=>ze1 λ_ _=>rfl)
  ·refine' zbq ?a ?l ?c ?k ?b;(case a=>k_is);(case l=>k_is);(case c=>k_is);(case k=>k_is);(case b=>exact λ_ _ _ _ _ _=>ze1 λ_ _=>rfl)
  ·refine' zbq ?a ?l ?c ?k ?b;(case a=>k_is);(case l=>k_is);(case c=>k_is);(case k=>k_is);(case b=>exact λ_ _ _ _ _ _=>qa8 λ_ _ _=>rfl)
  ·refine' zbq ?a ?l ?c ?k ?b;(case a=>k_is);(case l=>k_is);(case c=>k_is);(case k=>k_is);(case b=>exact λ_ _ _ _ _ _=>qa8 λ_ _ _=>rfl)
  ·refine' zbq ?a ?l ?c ?k ?b;(case a=>k_is);(case l=>k_is);(case c=>k_is);(case k=>k_is);(case b=>exact λ_ _ _ _ _ _=>zjn λ_=>rfl)
  ·refine' zbq ?a ?l ?c ?k ?b;(case a=>k_is);(case l=>k_is);(case c=>k_is);(case k=>k_is);(case b=>exact λ_ _ _ _ _ _=>ze1 λ_ _=>rfl)
  ·refine' zbq ?a ?l ?c ?k ?b;(case a=>k_is);(case l=>k_is);(case c=>k_is);(case k=>k_is);(case b=>exact λ_ _ _ _ _ _=>ze1 λ_ _=>rfl)
  ·refine' zbq ?a ?l ?c ?k ?b;(case a=>k_is);(case l=>k_is);(case c=>k_is);(case k=>k_is);(case b=>exact λ_ _ _ _ _ _=>qa8 λ_ _ _=>rfl)
  ·refine' zbq ?a ?l ?c ?k ?b;(case a=>k_is);(case l=>k_is);(case c=>k_is);(case k=>k_is);(case b=>exact λ_ _ _ _ _ _=>zjn λ_=>rfl)
  ·refine' zbq ?a ?l ?c ?k ?b;(case a=>k_is);(case l=>k_is);(case c=>k_is);(case k=>k_is);(case b=>exact λ_ _ _ _ _ _=>zjn λ_=>rfl)
  ·refine' zbq ?a ?l ?c ?k ?b;(case a=>k_is);(case l=>k_is);(case c=>k_is);(case k=>k_is);(case b=>exact λ_ _ _ _ _ _=>ze1 λ_ _=>rfl)
  ·refine' zbq ?a ?l ?c ?k ?b;(case a=>k_is);(case l=>k_is);(case c=>k_is);(case k=>k_is);(case b=>exact λ_ _ _ _ _ _=>qa8 λ_ _ _=>rfl)
  ·refine' zbq ?a ?l ?c ?k ?b;(case a=>k_is);(case l=>k_is);(case c=>k_is);(case k=>k_is);(case b=>exact λ_ _ _ _ _ _=>ze1 λ_ _=>rfl)
  ·refine' zbq ?a ?l ?c ?k ?b;(case a=>k_is);(case l=>k_is);(case c=>k_is);(case k=>k_is);(case b=>exact λ_ _ _ _ _ _=>zjn λ_=>rfl)
  ·refine' zbq ?a ?l ?c ?k ?b;(case a=>k_is);(case l=>k_is);(case c=>k_is);(case k=>k_is);(case b=>exact λ_ _ _ _ _ _=>zjn λ_=>rfl)
  ·refine' zbq ?a ?l ?c ?k ?b;(case a=>k_is);(case l=>k_is);(case c=>k_is);(case k=>k_is);(case b=>exact λ_ _ _ _ _ _=>qa8 λ_ _ _=>rfl)
  ·refine' zbq ?a ?l ?c ?k ?b;(case a=>k_is);(case l=>k_is);(case c=>k_is);(case k=>k_is);(case b=>exact λ_ _ _ _ _ _=>ze1 λ_ _=>rfl)
  ·refine' zbq ?a ?l ?c ?k ?b;(case a=>k_is);(case l=>k_is);(case c=>k_is);(case k=>k_is);(case b=>exact λ_ _ _ _ _ _=>ze1 λ_ _=>rfl)
  ·refine' zbq ?a ?l ?c ?k ?b;(case a=>k_is);(case l=>k_is);(case c=>k_is);(case k=>k_is);(case b=>exact λ_ _ _ _ _ _=>ze1 λ_ _=>rfl)
  ·refine' zbq ?a ?l ?c ?k ?b;(case a=>k_is);(case l=>k_is);(case c=>k_is);(case k=>k_is);(case b=>exact λ_ _ _ _ _ _=>zjn λ_=>rfl)
  ·refine' zbq ?a ?l ?c ?k ?b;(case a=>k_is);(case l=>k_is);(case c=>k_is);(case k=>k_is);(case b=>exact λ_ _ _ _ _ _=>zjn λ_=>rfl)
  ·refine' zbq ?a ?l ?c ?k ?b;(case a=>k_is);(case l=>k_is);(case c=>k_is);(case k=>k_is);(case b=>exact λ_ _ _ _ _ _=>zjn λ_=>rfl)
  ·refine' zbq ?a ?l ?c ?k ?b;(case a=>k_is);(case l=>k_is);(case c=>k_is);(case k=>k_is);(case b=>exact λ_ _ _ _ _ _=>zjn λ_=>rfl)
  ·refine' gfc_mk ?a ?l ?c ?k ?d ?ne ?b;(case a=>k_is);(case l=>k_is);(case c=>k_is);(case k=>k_is);(case d=>k_is);(case ne=>rfl);(case b=>exact λ_ _ _ _ _ _=>zjn λ_=>rfl)
  ·refine' zij KX G ?e;(case e=>k_is)
  ·refine' zpz KX G ?e;(case e=>k_is)
  ·refine' zij KX G ?e;(case e=>k_is)
  ·refine' zij KX G ?e;(case e=>k_is)
  ·refine' zij KX G ?e;(case e=>k_is)
  ·refine' zij KX G ?e;(case e=>k_is)
  ·refine' zij KX G ?e;(case e=>k_is)
  ·refine' zij KX G ?e;(case e=>k_is)
  ·refine' zij KX G ?e;(case e=>k_is)
  ·refine' zij KX G ?e;(case e=>k_is)
  ·refine' zij KX G ?e;(case e=>k_is)
  ·refine' zij KX G ?e;(case e=>k_is)
  ·refine' zij KX G ?e;(case e=>k_is)
  ·refine' zij KX G ?e;(case e=>k_is)
  ·refine' zpz KX G ?e;(case e=>k_is)
  ·refine' zpz KX G ?e;(case e=>k_is)
  ·refine' zpz KX G ?e;(case e=>k_is)
  ·refine' zpz KX G ?e;(case e=>k_is)
  ·refine' zpz KX G ?e;(case e=>k_is)
  ·refine' zpz KX G ?e;(case e=>k_is)
  ·refine' zpz KX G ?e;(case e=>k_is)
  ·refine' c_tup6 KX G ?e ?l;(case e=>k_is);(case l=>k_is)
  ·refine' qfo KX G ?e;(case e=>k_is)
  ·refine' qfo KX G ?e;(case e=>k_is)
  ·refine' qfo KX G ?e;(case e=>k_is)
  ·refine' qfo KX G ?e;(case e=>k_is)
  ·refine' qfo KX G ?e;(case e=>k_is)
  ·refine' qfo KX G ?e;(case e=>k_is)
  ·refine' qfo KX G ?e;(case e=>k_is)
  ·refine' qfo KX G ?e;(case e=>k_is)
  ·refine' qfo KX G ?e;(case e=>k_is)
  ·refine' qfo KX G ?e;(case e=>k_is)
  ·refine' qfo KX G ?e;(case e=>k_is)
  ·refine' qfo KX G ?e;(case e=>k_is)
  ·refine' qgn KX G ?e;(case e=>k_is)
  ·refine' r_mk ?c;(case c=>k_is)
  ·refine' ri_mk ?s1 ?s2 ?s3 ?l ?cd ?kf ?b;(case s1=>k_is);(case s2=>k_is);(case s3=>k_is);(case l=>k_is);(case cd=>k_is);(case kf=>k_is);(case b=>exact λ_ _ _ _ _ _=>qa8 λ_ _ _=>rfl)
  ·refine' x_mk KX G ?a ?c ?sa ?ga ?gh ?nn ?na ?kp ?i ?fn ?l ?cd ?kf ?b;(case a=>k_is);(case c=>k_is);(case sa=>k_is);(case ga=>k_is);(case gh=>k_is);(case nn=>k_is);(case na=>k_is);(case kp=>k_is);(case i=>k_is);(case fn=>k_is);(case l=>k_is);(case cd=>k_is);(case kf=>k_is);(case b=>exact λ_ _ _ _ _ _=>ze1 λ_ _=>rfl)
  ·refine' x_mk KX G ?a ?c ?sa ?ga ?gh ?nn ?na ?kp ?i ?fn ?l ?cd ?kf ?b;(case a=>k_is);(case c=>k_is);(case sa=>k_is);(case ga=>k_is);(case gh=>k_is);(case nn=>k_is);(case na=>k_is);(case kp=>k_is);(case i=>k_is);(case fn=>k_is);(case l=>k_is);(case cd=>k_is);(case kf=>k_is);(case b=>exact λ_ _ _ _ _ _=>zjn λ_=>rfl)
  ·refine' x_mk KX G ?a ?c ?sa ?ga ?gh ?nn ?na ?kp ?i ?fn ?l ?cd ?kf ?b;(case a=>k_is);(case c=>k_is);(case sa=>k_is);(case ga=>k_is);(case gh=>k_is);(case nn=>k_is);(case na=>k_is);(case kp=>k_is);(case i=>k_is);(case fn=>k_is);(case l=>k_is);(case cd=>k_is);(case kf=>k_is);(case b=>exact λ_ _ _ _ _ _=>ze1 λ_ _=>rfl)
  ·refine' x_mk KX G ?a ?c ?sa ?ga ?gh ?nn ?na ?kp ?i ?fn ?l ?cd ?kf ?b;(case a=>k_is);(case c=>k_is);(case sa=>k_is);(case ga=>k_is);(case gh=>k_is);(case nn=>k_is);(case na=>k_is);(case kp=>k_is);(case i=>k_is);(case fn=>k_is);(case l=>k_is);(case cd=>k_is);(case kf=>k_is);(case b=>exact λ_ _ _ _ _ _=>ze1 λ_ _=>rfl)
  ·refine' x_mk KX G ?a ?c ?sa ?ga ?gh ?nn ?na ?kp ?i ?fn ?l ?cd ?kf ?b;(case a=>k_is);(case c=>k_is);(case sa=>k_is);(case ga=>k_is);(case gh=>k_is);(case nn=>k_is);(case na=>k_is);(case kp=>k_is);(case i=>k_is);(case fn=>k_is);(case l=>k_is);(case cd=>k_is);(case kf=>k_is);(case b=>exact λ_ _ _ _ _ _=>ze1 λ_ _=>rfl)
  ·refine' qgn KX G ?e;(case e=>k_is)
  ·refine' Cls.mk ?pg ?hd ?po ?sa;(case pg=>k_is);(case hd=>k_is);(case po=>k_is);(case sa=>k_is)
  ·refine' i_mk ?mk ?i ?fn ?kp ?l ?cd ?kf ?b;(case mk=>k_is);(case i=>k_is);(case fn=>k_is);(case kp=>k_is);(case l=>k_is);(case cd=>k_is);(case kf=>k_is);(case b=>exact λ_ _ _ _ _ _=>bnd5 λ_ _ _ _ _=>rfl)
  ·show qes _ _ _=_;k_is
  ·show qes _ _ _=_;k_is
  ·show qes _ _ _=_;k_is
  ·show qes _ _ _=_;k_is
  ·refine' qgn KX G ?e;(case e=>k_is)
  ·refine' Cls.mk ?pg ?hd ?po ?sa;(case pg=>k_is);(case hd=>k_is);(case po=>k_is);(case sa=>k_is)
  ·refine' i_mk ?mk ?i ?fn ?kp ?l ?cd ?kf ?b;(case mk=>k_is);(case i=>k_is);(case fn=>k_is);(case kp=>k_is);(case l=>k_is);(case cd=>k_is);(case kf=>k_is);(case b=>exact λ_ _ _ _ _ _=>ze1 λ_ _=>rfl)
  ·show qes _ _ _=_;k_is
  ·show qes _ _ _=_;k_is
  ·show qes _ _ _=_;k_is
  ·refine' zdp ?a ?i ?l ?c ?k ?b;(case a=>k_is);(case i=>k_is);(case l=>k_is);(case c=>k_is);(case k=>k_is);(case b=>exact λ_ _ _ _ _ _=>zjn λ_=>rfl)
  ·refine' zdp ?a ?i ?l ?c ?k ?b;(case a=>k_is);(case i=>k_is);(case l=>k_is);(case c=>k_is);(case k=>k_is);(case b=>exact λ_ _ _ _ _ _=>ze1 λ_ _=>rfl)
  ·refine' zdp ?a ?i ?l ?c ?k ?b;(case a=>k_is);(case i=>k_is);(case l=>k_is);(case c=>k_is);(case k=>k_is);(case b=>exact λ_ _ _ _ _ _=>ze1 λ_ _=>rfl)
  ·refine' zdp ?a ?i ?l ?c ?k ?b;(case a=>k_is);(case i=>k_is);(case l=>k_is);(case c=>k_is);(case k=>k_is);(case b=>exact λ_ _ _ _ _ _=>bnd4 λ_ _ _ _=>rfl)
  ·refine' zdp ?a ?i ?l ?c ?k ?b;(case a=>k_is);(case i=>k_is);(case l=>k_is);(case c=>k_is);(case k=>k_is);(case b=>exact λ_ _ _ _ _ _=>zjn λ_=>rfl)
  ·refine' zdp ?a ?i ?l ?c ?k ?b;(case a=>k_is);(case i=>k_is);(case l=>k_is);(case c=>k_is);(case k=>k_is);(case b=>exact λ_ _ _ _ _ _=>zjn λ_=>rfl)
  ·refine' zdp ?a ?i ?l ?c ?k ?b;(case a=>k_is);(case i=>k_is);(case l=>k_is);(case c=>k_is);(case k=>k_is);(case b=>exact λ_ _ _ _ _ _=>zjn λ_=>rfl)
  ·refine' zdp ?a ?i ?l ?c ?k ?b;(case a=>k_is);(case i=>k_is);(case l=>k_is);(case c=>k_is);(case k=>k_is);(case b=>exact λ_ _ _ _ _ _=>zjn λ_=>rfl)
  ·refine' zdp ?a ?i ?l ?c ?k ?b;(case a=>k_is);(case i=>k_is);(case l=>k_is);(case c=>k_is);(case k=>k_is);(case b=>exact λ_ _ _ _ _ _=>ze1 λ_ _=>rfl)
  ·refine' zdp ?a ?i ?l ?c ?k ?b;(case a=>k_is);(case i=>k_is);(case l=>k_is);(case c=>k_is);(case k=>k_is);(case b=>exact λ_ _ _ _ _ _=>ze1 λ_ _=>rfl)
  ·refine' zdp ?a ?i ?l ?c ?k ?b;(case a=>k_is);(case i=>k_is);(case l=>k_is);(case c=>k_is);(case k=>k_is);(case b=>exact λ_ _ _ _ _ _=>ze1 λ_ _=>rfl)
  ·refine' zdp ?a ?i ?l ?c ?k ?b;(case a=>k_is);(case i=>k_is);(case l=>k_is);(case c=>k_is);(case k=>k_is);(case b=>exact λ_ _ _ _ _ _=>ze1 λ_ _=>rfl)
  ·refine' zdp ?a ?i ?l ?c ?k ?b;(case a=>k_is);(case i=>k_is);(case l=>k_is);(case c=>k_is);(case k=>k_is);(case b=>exact λ_ _ _ _ _ _=>ze1 λ_ _=>rfl)
  ·refine' zdp ?a ?i ?l ?c ?k ?b;(case a=>k_is);(case i=>k_is);(case l=>k_is);(case c=>k_is);(case k=>k_is);(case b=>exact λ_ _ _ _ _ _=>zjn λ_=>rfl)
  ·refine' zdp ?a ?i ?l ?c ?k ?b;(case a=>k_is);(case i=>k_is);(case l=>k_is);(case c=>k_is);(case k=>k_is);(case b=>exact λ_ _ _ _ _ _=>ze1 λ_ _=>rfl)
  ·refine' zdp ?a ?i ?l ?c ?k ?b;(case a=>k_is);(case i=>k_is);(case l=>k_is);(case c=>k_is);(case k=>k_is);(case b=>exact λ_ _ _ _ _ _=>ze1 λ_ _=>rfl)
  ·refine' qgn KX G ?e;(case e=>k_is)
  ·refine' Cls.mk ?pg ?hd ?po ?sa;(case pg=>k_is);(case hd=>k_is);(case po=>k_is);(case sa=>k_is)
  ·refine' i_mk ?mk ?i ?fn ?kp ?l ?cd ?kf ?b;(case mk=>k_is);(case i=>k_is);(case fn=>k_is);(case kp=>k_is);(case l=>k_is);(case cd=>k_is);(case kf=>k_is);(case b=>exact λ_ _ _ _ _ _=>bnd4 λ_ _ _ _=>rfl)
  ·show qes _ _ _=_;k_is
  ·show qes _ _ _=_;k_is
  ·show qes _ _ _=_;k_is
  ·refine' qgn KX G ?e;(case e=>k_is)
  ·refine' Cls.mk ?pg ?hd ?po ?sa;(case pg=>k_is);(case hd=>k_is);(case po=>k_is);(case sa=>k_is)
  ·refine' i_mk ?mk ?i ?fn ?kp ?l ?cd ?kf ?b;(case mk=>k_is);(case i=>k_is);(case fn=>k_is);(case kp=>k_is);(case l=>k_is);(case cd=>k_is);(case kf=>k_is);(case b=>exact λ_ _ _ _ _ _=>qa8 λ_ _ _=>rfl)
  ·show qes _ _ _=_;k_is
  ·show qes _ _ _=_;k_is
  ·show qes _ _ _=_;k_is
  ·show qes _ _ _=_;k_is
  ·show qes _ _ _=_;k_is
  ·show qes _ _ _=_;k_is
  ·refine' zdp ?a ?i ?l ?c ?k ?b;(case a=>k_is);(case i=>k_is);(case l=>k_is);(case c=>k_is);(case k=>k_is);(case b=>exact λ_ _ _ _ _ _=>ze1 λ_ _=>rfl)
  ·refine' zdp ?a ?i ?l ?c ?k ?b;(case a=>k_is);(case i=>k_is);(case l=>k_is);(case c=>k_is);(case k=>k_is);(case b=>exact λ_ _ _ _ _ _=>zjn λ_=>rfl)
  ·refine' zdp ?a ?i ?l ?c ?k ?b;(case a=>k_is);(case i=>k_is);(case l=>k_is);(case c=>k_is);(case k=>k_is);(case b=>exact λ_ _ _ _ _ _=>qa8 λ_ _ _=>rfl)
  ·refine' zdp ?a ?i ?l ?c ?k ?b;(case a=>k_is);(case i=>k_is);(case l=>k_is);(case c=>k_is);(case k=>k_is);(case b=>exact λ_ _ _ _ _ _=>ze1 λ_ _=>rfl)
  ·refine' zdp ?a ?i ?l ?c ?k ?b;(case a=>k_is);(case i=>k_is);(case l=>k_is);(case c=>k_is);(case k=>k_is);(case b=>exact λ_ _ _ _ _ _=>ze1 λ_ _=>rfl)
  ·refine' zdp ?a ?i ?l ?c ?k ?b;(case a=>k_is);(case i=>k_is);(case l=>k_is);(case c=>k_is);(case k=>k_is);(case b=>exact λ_ _ _ _ _ _=>ze1 λ_ _=>rfl)
  ·refine' zdp ?a ?i ?l ?c ?k ?b;(case a=>k_is);(case i=>k_is);(case l=>k_is);(case c=>k_is);(case k=>k_is);(case b=>exact λ_ _ _ _ _ _=>ze1 λ_ _=>rfl)
 case out=>first|kernel_rfl|rfl
