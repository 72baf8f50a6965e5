import PyProof.Rows.All
import Kp169Spec
import PyProof.StationsW
import PyProof.PassesOwn
import PyProof.ExcInit
import PyProof.ExcClass2
import PyProof.InstStoreFacts
import PyProof.ExcBaseAll.Exception
import Wide.All
import OpenK.AllK
import Wide.FinOn
import PyProof.EqAt
import PyProof.EqKinds
import PyProof.TupleCall
import KE.BitLaws
import PyProof.ExcAttrAll.Exception
import PyProof.RulesAs
import KE.KNest
import KE.KMinKey
import KE.KLam
import PyProof.ZipIter
import PyProof.Draws
import PyProof.StrWalks
import PyProof.AttrMissHeap
import KE.KItemsList
import PyProof.Rows.StrStrike
import PyProof.ToksMono
import PySem.Challenge.RW_sheetunits_s02_un_kind_of
import KE.OsGo
import PyKp169
import Open.SpecLaws
set_option linter.all false
set_option maxRecDepth 100000
set_option Elab.async false
open Array renaming getElem?_eq_some_iff->qg3,length_toList->qhc,getElem?_toList->qi1,toList_append->qjd
open Bool renaming and_eq_true->qft,false_ne_true->qfu,false_eq_true->qfz,eq_false_iff->qga,eq_iff_iff->qgw,not_eq_true'->qjm,and_true->qjr,or_false->qjs,not_true->qkm,false_or->qkn
open Int renaming toNat->qif,fdiv->qiz,fmod_nonneg_of_pos->qj0,fmod->qkt,mul_neg->qku,ofNat->qkw
open List renaming length_map->qe9,length_append->qfb,getElem?_eq_some_iff->qfc,length_cons->qfd,getElem?_map->qfe,map_append->qfg,mem_append->qfj,replicate->qfk,all_eq_true->qfm,mem_cons->qfo,mem_singleton->qfq,size_toArray->qfr,zipWith->qfs,mem_of_mem_drop->qfv,mem_of_getElem?->qfw,length_take->qfx,mem_map->qf0,getElem?_eq_getElem->qf2,take_of_length_le->qf4,length_nil->qf5,append_assoc->qf7,mem_cons_of_mem->qf8,drop_eq_getElem_cons->qf9,append_nil->qgb,map_cons->qge,mem_append_right->qgf,getD_eq_getElem?_getD->qgg,range->qgh,take_succ->qgi,length_drop->qgj,takeWhile_cons->qgk,nil_append->qgm,mem_append_left->qgq,take_length->qgr,find?_cons->qgs,contains_cons->qgt,mem_cons_self->qgu,getElem?_eq_none->qgv,cons_append->qgx,zipWith_cons_cons->qgy,map_congr_left->qg0,all_append->qg1,mem_of_mem_take->qg4,foldl_cons->qg5,take_append_drop->qg6,eq_of_mem_replicate->qg7,mem_filter->qg9,not_mem_nil->qha,getElem?_append_right->qhb,replicate_succ->qhd,mem_of_find?_eq_some->qhe,drop_length->qhi,getD->qhj,mem_range->qhl,drop_of_length_le->qho,lookup_cons->qhp,mem_or_eq_of_mem_set->qht,drop_zero->qhu,mem_iff_getElem->qhv,nodup_cons->qhw,getElem?_replicate->qhx,all_cons->qhy,any_cons->qhz,length->qh1,zip->qh5,foldl_append->qh6,flatten_cons->qh8,forIn_nil->qic,getElem?_zip_eq_some->qid,drop_drop->qie,getElem_mem->qig,idxOf?_cons->qii,dropWhile_cons->qij,filterMap_cons->qik,lookup->qim,map_nil->qio,zip_cons_cons->qip,map_drop->qiq,findIdx?_eq_some_iff_getElem->qir,mem_filterMap->qis,forIn_cons->qit,range_succ->qiu,getElem?_set_self->qiv,flatMap_cons->qiy,length_replicate->qi0,map_map->qi5,range_eq_range'->qi7,getElem?_set_ne->qi8,sum_cons->qi9,map_take->qja,of_mem_zip->qjb,all_map->qjf,filter_append->qjg,nodup_nil->qjh,getElem?_append_left->qjj,getElem?_eq_none_iff->qjk,nodup_append->qjl,length_range->qjq,take_append->qju,range'_succ->qjv,getElem_inj->qjw,drop_eq_nil_of_le->qjz,range_succ_eq_map->qj2,zipWith_nil_left->qj4,getElem?_zipWith->qj5,length_set->qj6,length_singleton->qj7,length_filter_le->qkb,take_zero->qkc,getD_cons_succ->qkd,range'->qke,filter_eq_self->qkf,length_zipWith->qkg,drop_succ_cons->qkh,toList_toArray->qkj,flatMap_append->qkl,all_nil->qkp
open Nat renaming le_refl->qfh,lt_of_lt_of_le->qfn,ne_of_lt->qf6,le_trans->qgn,zero_le->qg2,lt_irrefl->qhf,le_add_right->qhh,ne_of_gt->qhm,le_of_eq->qh2,min_eq_left->qh4,add_le_add_right->qia,min_eq_right->qih,le_of_succ_le->qiw,lt_succ_of_lt->qix,lt_succ_self->qjy,add_comm->qka,lt_or_ge->qko,le_of_lt->qkq,lt_trans->qkr,add_zero->qks,le_succ->qkv
open Option renaming map_eq_some_iff->qff,bind_eq_some_iff->qfi,some->qfl,map_some->qfy,bind_some->qf3,toList_some->qgz,isSome_iff_exists->qjp
open PySem.F renaming plainAttrs_list->qf1,slot_list_append->qgc,type_list_append->qgd,slot_zip_getattribute->qh0,excBase_Exception->qib,slot_dict_get->qi2,slot_list_pop->qi3,type_list_pop->qi4,args_dict_get_3->qjt,entry_dict_get->qj3
open PySem.W renaming Frag->qfa,findIn->qfp,mg_none_of->qgl,fnOf->qgo,keepIn->qgp,emptyDict->qg8,codeIn->qhg,mg_of->qhk,instObj->qhn,clsIn->qhq,callWith_K->qhr,nsIn->qhs,methodCall_KW->qh3,hasDictIn->qh7,looks_findIn->qh9,looks_clsIn->qil,isFn->qin,plainGet->qi6,plainGet_of->qjc,callWith_K0->qje,lookIn->qji,methodObj->qjn,set_plain->qjo,handedIn->qjx,cellsFrom_some->qj1,takerIn->qj8,makesIn->qj9,findObj_own->qki,looks_mroIn->qkk
namespace Mir
open Kp168 (Row nought ofPlace ofMark mul pow Filling itself filled nearest instead only MOST IN STEPS)
noncomputable def za6(r:Row):List Int:=r.mark++r.place
structure WF(r:Row):Prop where
 m:r.mark.length=8
 p:r.place.length=24
theorem zbf{r:Row}(h:WF r):(za6 r).length=32:=by simp[za6,h.m,h.p]
theorem zc4{r:Row}(h:WF r):(za6 r).take 8=r.mark:=by simp[za6,<-h.m]
theorem zb9{r:Row}(h:WF r):(za6 r).drop 8=r.place:=by simp[za6,<-h.m]
theorem zb6:WF nought:=⟨rfl,rfl⟩
theorem zau(p:Nat):WF (ofPlace p):=⟨rfl,by simp[ofPlace,nought,Kp168.PLACES]⟩
theorem zv7(p:Nat):WF (ofMark p):=⟨by simp[ofMark,nought,Kp168.MARKS],rfl⟩
theorem ze1{a b:Row}(ha:WF a)(hb:WF b):WF (mul a b):=⟨by simp[mul,ha.m,hb.m],by simp[mul,ha.p,hb.p]⟩
theorem zbw{a:Row}(k:Int)(ha:WF a):WF (pow k a):=⟨by simp[pow,ha.m],by simp[pow,ha.p]⟩
theorem zr2{i:Nat}(h:i<8):(qfk 32 (0:Int)).set i 1=za6 (ofMark i):=by
 have:∀i:_root_.Fin 8,(qfk 32 (0:Int)).set i.1 1=za6 (ofMark i.1):=by decide
 exact this ⟨i,h⟩
theorem zjg{p:Nat}(h:p<24):(qfk 32 (0:Int)).set (8+p) 1=za6 (ofPlace p):=by
 have:∀i:_root_.Fin 24,(qfk 32 (0:Int)).set (8+i.1) 1=za6 (ofPlace i.1):=by decide
 exact this ⟨p,h⟩
theorem zct{α β γ:Type}(f:α->β->γ):∀(a b:List α)(c d:List β),a.length=c.length->qfs f (a++b) (c++d)=qfs f a c++qfs f b d
 |[],_,[],_,_=>rfl
 |[],_,_::_,_,h=>by simp at h
 |_::_,_,[],_,h=>by simp at h
 |x::a,b,y::c,d,h=>by
  have h':a.length=c.length:=by simpa using h
  simp[zct f a b c d h']
theorem zn9{a b:Row}(ha:WF a)(hb:WF b):qfs (λx y=>x+y) (za6 a) (za6 b)=za6 (mul a b):=by
 unfold za6;rw[zct _ _ _ _ _ (by rw[ha.m,hb.m])];rfl
theorem zqw(a b:List Int):qfs (λx y=>x - y) a b=qfs (λx y=>x+y) a (b.map ((-1)*·)):=by
 rw[List.zipWith_map_right];congr 1;funext x y;lia
theorem zoa{a b:Row}(ha:WF a)(hb:WF b):qfs (λx y=>x - y) (za6 a) (za6 b)=za6 (mul a (pow (-1) b)):=by
 have e:(za6 b).map ((-1)*·)=za6 (pow (-1) b):=by simp[za6,pow]
 rw[zqw,e,zn9 ha (zbw _ hb)]
theorem zn8{a:Row}(k:Int):(za6 a).map (λx=>x*k)=za6 (pow k a):=by
 unfold za6 pow;rw[qfg];simp[Int.mul_comm]
theorem zis{r:Row}{k:Nat}(h:WF r)(hk:k<=24):r.mark++qfk k 0++r.place.take (24 - k)=za6 (Kp169.shift k r):=by
 unfold za6 Kp169.shift
 simp only[Kp168.PLACES,qf7]
 rw[qju]
 simp[hk,qf4]
theorem zfz{r:Row}(k:Nat)(h:WF r):WF (Kp169.shift k r):=⟨h.m,by unfold Kp169.shift;simp[Kp168.PLACES,h.p]⟩
theorem zc7:∀(a b:List Int),(∀x∈b,x=0)->a.length<=b.length->qfs (λx y=>x+y) a b=a
 |[],_,_,_=>by simp
 |x::a,[],_,h=>by simp at h
 |x::a,y::b,h,hl=>by
  have hy:y=0:=h y (by simp)
  have:=zc7 a b (λz hz=>h z (by simp[hz])) (by simpa using hl)
  simp[hy,this]
theorem ztp{a x:Row}(ha:WF a)(hx:WF x):mul a (pow 0 x)=a:=by
 unfold mul pow
 have e1:qfs (λx y:Int=>x+y) a.mark (x.mark.map (0*·))=a.mark:=zc7 _ _ (by simp) (by simp[ha.m,hx.m])
 have e2:qfs (λx y:Int=>x+y) a.place (x.place.map (0*·))=a.place:=zc7 _ _ (by simp) (by simp[ha.p,hx.p])
 cases a;simp only[e1,e2]
noncomputable def zcz(acc:Row)(q:Row×Int):Row:=if q.2=0 then acc else mul acc (pow q.2 q.1)
theorem zj5{acc:Row}{q:Row×Int}(h:WF acc)(hq:WF q.1):WF (zcz acc q):=by
 unfold zcz;split
 ·exact h
 ·exact ze1 h (zbw _ hq)
noncomputable def zyx(s:List Row)(r:Row):Row:=(qh5 s r.place).foldl zcz { nought with mark:=r.mark }
theorem zfy{r:Row}(h:WF r):WF { nought with mark:=r.mark }:=⟨h.m,rfl⟩
theorem zv8:∀(l:List (Row×Int))(acc:Row),WF acc->(∀q∈l,WF q.1)->WF (l.foldl zcz acc)
 |[],_,h,_=>h
 |q::l,acc,h,hq=>zv8 l _ (zj5 h (hq q (by simp))) λp hp=>hq p (by simp[hp])
theorem zv9{s:List Row}{r:Row}(hr:WF r)(hs:∀x∈s,WF x):WF (zyx s r):=
 zv8 _ _ (zfy hr) λq hq=>hs q.1 (qjb hq).1
theorem zng:∀(s:List Row)(l:List Int)(acc:Row),WF acc->(∀x∈s,WF x)->(qh5 s l).foldl zcz acc=(qfs pow l s).foldl mul acc
 |[],_,_,_,_=>by simp
 |x::s,[],_,_,_=>by simp
 |x::s,k::l,acc,ha,hs=>by
  have hx:=hs x (by simp)
  have e:zcz acc (x,k)=mul acc (pow k x):=by
   unfold zcz
   split
   ·next h=>simp only at h;subst h;rw[ztp ha hx]
   ·rfl
  simp only[qip,qg5,qgy,e]
  exact zng s l _ (ze1 ha (zbw _ hx)) λy hy=>hs y (by simp[hy])
theorem zp5{s:List Row}{r:Row}(hr:WF r)(hs:∀x∈s,WF x):zyx s r=filled s r:=zng s r.place _ (zfy hr) hs
theorem znf:∀(s:List Row)(l:List Int)(acc:Row),WF acc->(∀x∈s,WF x)->(∀k∈l,k=0)->(qfs pow l s).foldl mul acc=acc
 |[],l,_,_,_,_=>by cases l <;> simp
 |_::_,[],_,_,_,_=>by simp
 |x::s,k::l,acc,ha,hs,hk=>by
  have hk0:k=0:=hk k (by simp)
  subst hk0
  simp only[qgy,qg5]
  rw[ztp ha (hs x (by simp))]
  exact znf s l acc ha (λy hy=>hs y (by simp[hy])) λy hy=>hk y (by simp[hy])
theorem zbt{s:List Row}{r:Row}(hr:WF r)(hs:∀x∈s,WF x):WF (filled s r):=by rw[<-zp5 hr hs];exact zv9 hr hs
theorem zvi{s t:List Row}{r:Row}(hr:WF r)(hs:∀x∈s,WF x)(ht:∀x∈t,WF x)(h0:∀k∈r.place.drop s.length,k=0):filled (s++t) r=filled s r:=by
 unfold filled
 have e:qfs pow r.place (s++t)=qfs pow (r.place.take s.length) s++qfs pow (r.place.drop s.length) t:=by
  by_cases hl:s.length<=r.place.length
  ·conv=>lhs;rw[<-qg6 s.length r.place]
   rw[zct]
   simp[hl]
  ·have h1:r.place.length<=s.length:=by lia
   rw[qf4 h1,qjz h1]
   simp only[qj4,qgb]
   have:qfs pow r.place (s++t)=qfs pow (r.place++[]) (s.take r.place.length++(s.drop r.place.length++t)):=by
    rw[qgb,<-qf7,qg6]
   rw[this,zct _ _ _ _ _ (by simp[h1])]
   simp only[qj4,qgb]
   conv=>rhs;rw[<-qg6 r.place.length s,<-qgb r.place]
   rw[zct _ _ _ _ _ (by simp[h1])]
   simp
 have e2:qfs pow r.place s=qfs pow (r.place.take s.length) s:=by
  by_cases hl:s.length<=r.place.length
  ·conv=>lhs;rw[<-qg6 s.length r.place,<-qgb s]
   rw[zct _ _ _ _ _ (by simp[hl])]
   simp
  ·rw[qf4 (by lia)]
 rw[e,qh6,znf t _ _ _ ht h0,<-e2]
 have:WF ((qfs pow r.place s).foldl mul { nought with mark:=r.mark }):=zbt hr hs
 rw[<-e2];exact this
noncomputable def mk(r:Row)(i:Nat):Int:=r.mark.getD i 0
noncomputable def pl(r:Row)(j:Nat):Int:=r.place.getD j 0
theorem zt2{a b:List Int}(hl:a.length=b.length)(h:∀i,i<a.length->a.getD i 0=b.getD i 0):a=b:=by
 apply List.ext_getElem hl
 intro i h1 h2
 have:=h i h1
 simpa [qhj,h1,h2] using this
theorem zq8{a b:Row}(ha:WF a)(hb:WF b)(h1:∀i,i<8->mk a i=mk b i)(h2:∀j,j<24->pl a j=pl b j):a=b:=by
 have e1:a.mark=b.mark:=zt2 (by rw[ha.m,hb.m]) λi hi=>h1 i (by rw[ha.m]at hi;exact hi)
 have e2:a.place=b.place:=zt2 (by rw[ha.p,hb.p]) λi hi=>h2 i (by rw[ha.p]at hi;exact hi)
 cases a;cases b;simp_all
theorem ztx(a b:List Int)(i:Nat)(h:a.length=b.length):(qfs (λx y=>x+y) a b).getD i 0=a.getD i 0+b.getD i 0:=by
 by_cases hi:i<a.length
 ·have hi':i<b.length:=by lia
  simp[qhj,qj5,hi,hi']
 ·have hi':¬i<b.length:=by lia
  simp[qhj,qj5,qgv (by lia:a.length<=i),qgv (by lia:b.length<=i)]
theorem zen(a:List Int)(f:Int->Int)(h0:f 0=0)(i:Nat):(a.map f).getD i 0=f (a.getD i 0):=by
 by_cases hi:i<a.length
 ·simp[qhj,hi]
 ·simp[qhj,qgv (by lia:a.length<=i),h0]
theorem qce{a b:Row}(ha:WF a)(hb:WF b)(i:Nat):mk (mul a b) i=mk a i+mk b i:=ztx _ _ _ (by rw[ha.m,hb.m])
theorem zw5{a b:Row}(ha:WF a)(hb:WF b)(i:Nat):pl (mul a b) i=pl a i+pl b i:=ztx _ _ _ (by rw[ha.p,hb.p])
theorem zx6(k:Int)(a:Row)(i:Nat):mk (pow k a) i=k*mk a i:=zen _ _ (by simp) _
theorem zta(k:Int)(a:Row)(i:Nat):pl (pow k a) i=k*pl a i:=zen _ _ (by simp) _
theorem zjy(n i:Nat):(qfk n (0:Int)).getD i 0=0:=by
 simp only[qhj,qhx];split <;> rfl
theorem zh1(l:List Int)(i j:Nat)(x:Int):(l.set i x).getD j 0=if i=j/\i<l.length then x else l.getD j 0:=by
 simp only[qhj,List.getElem?_set]
 by_cases h:i=j
 ·subst h
  by_cases hi:i<l.length
  ·simp[hi]
  ·simp[hi,qgv (by lia:l.length<=i)]
 ·simp[h]
theorem zf1(p j:Nat):pl (ofPlace p) j=if p=j/\p<24 then 1 else 0:=by
 show ((qfk 24 (0:Int)).set p 1).getD j 0=_
 rw[zh1,zjy];simp
theorem zm9(p i:Nat):mk (ofPlace p) i=0:=zjy 8 i
theorem zx7(i:Nat):mk nought i=0:=zjy 8 i
theorem zdo(i:Nat):pl nought i=0:=zjy 24 i
theorem zx8(i:Nat):∀(l:List Int)(t:List Row)(acc:Row),WF acc->(∀x∈t,WF x) ->
  mk ((qfs pow l t).foldl mul acc) i=mk acc i+(qfs (λk x=>k*mk x i) l t).sum
 |[],_,_,_,_=>by simp
 |_::_,[],_,_,_=>by simp
 |k::l,x::t,acc,ha,ht=>by
  have hx:=ht x (by simp)
  simp only[qgy,qg5,qi9]
  rw[zx8 i l t _ (ze1 ha (zbw k hx)) λy hy=>ht y (by simp[hy]),qce ha (zbw k hx),zx6]
  lia
theorem zw6(i:Nat):∀(l:List Int)(t:List Row)(acc:Row),WF acc->(∀x∈t,WF x) ->
  pl ((qfs pow l t).foldl mul acc) i=pl acc i+(qfs (λk x=>k*pl x i) l t).sum
 |[],_,_,_,_=>by simp
 |_::_,[],_,_,_=>by simp
 |k::l,x::t,acc,ha,ht=>by
  have hx:=ht x (by simp)
  simp only[qgy,qg5,qi9]
  rw[zw6 i l t _ (ze1 ha (zbw k hx)) λy hy=>ht y (by simp[hy]),zw5 ha (zbw k hx),zta]
  lia
theorem zq3(f:Int->Row->Int):∀(l:List Int)(t:List Row)(p:Nat)(x:Row),p<l.length->p<t.length ->
  (qfs f l (t.set p x)).sum=(qfs f l t).sum+(f (l.getD p 0) x - f (l.getD p 0) (t.getD p default))
 |[],_,_,_,h,_=>by simp at h
 |_,[],_,_,_,h=>by simp at h
 |k::l,y::t,0,x,_,_=>by simp;lia
 |k::l,y::t,p+1,x,h1,h2=>by
  have:=zq3 f l t p x (by simpa using h1) (by simpa using h2)
  simp only[List.set_cons_succ,qgy,qi9,qkd]
  rw[this];lia
theorem zop:∀x∈itself,WF x:=by
 intro x hx
 obtain⟨p,_,rfl⟩:=qf0.mp hx
 exact zau p
theorem zox(j:Nat):∀(l:List Int)(a:Nat),a+l.length<=24 ->
  (qfs (λk x=>k*pl x j) l ((qke a l.length).map ofPlace)).sum=if a<=j/\j<a+l.length then l.getD (j - a) 0 else 0
 |[],a,_=>by simp
 |k::l,a,h=>by
  simp only[qfd]at h
  simp only[qfd,qjv,qge,qgy,qi9]
  rw[zox j l (a+1) (by lia),zf1]
  by_cases h1:a=j
  ·subst h1
   rw[if_pos ⟨rfl,by lia⟩,if_neg (by lia),if_pos (by lia)]
   simp
  ·rw[if_neg (by lia)]
   by_cases h2:a+1<=j/\j<a+1+l.length
   ·rw[if_pos h2,if_pos (by lia)]
    have:j - a=(j - (a+1))+1:=by lia
    rw[this,qkd];simp
   ·rw[if_neg h2,if_neg (by lia)];simp
theorem zpv:itself=(qke 0 24).map ofPlace:=by
 unfold itself;rw[qi7];rfl
theorem zum{l:List Int}(hl:l.length=24)(j:Nat)(hj:j<24):(qfs (λk x=>k*pl x j) l itself).sum=l.getD j 0:=by
 have:=zox j l 0 (by lia)
 rw[hl]at this
 rw[zpv,this,if_pos ⟨by lia,by lia⟩];simp
theorem zhh{l:List Int}(i:Nat):∀(t:List Row),(∀x∈t,∃p,x=ofPlace p)->∀l:List Int,(qfs (λk x=>k*mk x i) l t).sum=0
 |[],_,l=>by simp
 |x::t,h,[]=>by simp
 |x::t,h,k::l=>by
  obtain⟨p,rfl⟩:=h x (by simp)
  simp[zm9,zhh (l:=l) i t (λy hy=>h y (by simp[hy])) l]
theorem zyl:∀x∈itself,∃p,x=ofPlace p:=λx hx=>by
 obtain⟨p,_,rfl⟩:=qf0.mp hx
 exact⟨p,rfl⟩
theorem ziq:itself.length=24:=by simp[itself,Kp168.PLACES]
theorem zld{p:Nat}(h:p<24):itself.getD p default=ofPlace p:=by
 simp[itself,Kp168.PLACES,qhj,h]
theorem zqy{p:Nat}{x:Row}(hx:WF x):∀y∈only p x,WF y:=λy hy=>by
 rcases qht hy with h|h
 ·exact zop y h
 ·rw[h];exact hx
theorem zrt{s x:Row}{p:Nat}(hs:WF s)(hx:WF x)(hp:p<24)(i:Nat):mk (filled (only p x) s) i=mk s i+pl s p*mk x i:=by
 unfold filled
 rw[zx8 i _ _ _ (zfy hs) (zqy hx)]
 unfold only
 rw[zq3 _ _ _ _ _ (by rw[hs.p];exact hp) (by rw[ziq];exact hp),zhh (l:=[]) i itself zyl,zld hp,zm9]
 show mk s i+_=_
 unfold pl
 lia
theorem zgt{s x:Row}{p:Nat}(hs:WF s)(hx:WF x)(hp:p<24)(j:Nat)(hj:j<24):pl (filled (only p x) s) j=(if p=j then 0 else pl s j)+pl s p*pl x j:=by
 unfold filled
 rw[zw6 j _ _ _ (zfy hs) (zqy hx)]
 unfold only
 rw[zq3 _ _ _ _ _ (by rw[hs.p];exact hp) (by rw[ziq];exact hp),zum hs.p j hj,zld hp,zf1]
 have e:pl { nought with mark:=s.mark } j=0:=zdo j
 rw[e]
 show 0+(pl s j+(pl s p*pl x j - pl s p*_))=_
 by_cases h:p=j
 ·subst h
  rw[if_pos ⟨rfl,hp⟩,if_pos rfl];lia
 ·rw[if_neg (by lia),if_neg h];lia
theorem za4{s x:Row}{p:Nat}(hs:WF s)(hx:WF x):WF (filled (only p x) s):=zbt hs (zqy hx)
theorem zbu{r:Row}(p:Nat)(a:Int)(h:WF r):WF (instead r p a):=⟨by simp[instead,h.m],by simp[instead,h.p]⟩
theorem zu6(r:Row)(p:Nat)(a:Int)(i:Nat):mk (instead r p a) i=-(qiz (mk r i) a):=
 zen _ (λk=>-(qiz k a)) (by simp) _
theorem zf2{r:Row}{p:Nat}(a:Int)(h:WF r)(hp:p<24)(j:Nat):pl (instead r p a) j=if p=j then 1 else -(qiz (pl r j) a):=by
 unfold pl instead
 simp only[zh1,qe9,h.p,hp,and_true]
 split
 ·rfl
 ·exact zen _ (λk=>-(qiz k a)) (by simp) _
noncomputable def ze9(r:Row)(p:Nat)(a:Int):Row:=⟨r.mark.map (λk=>qiz k a),(r.place.map λk=>qiz k a).set p 0⟩
theorem zv6{r:Row}(p:Nat)(a:Int)(h:WF r):WF (ze9 r p a):=⟨by simp[ze9,h.m],by simp[ze9,h.p]⟩
theorem zyt{r:Row}{p:Nat}{a:Int}(h:WF r):((za6 r).map λk=>qiz k a).set (8+p) 0=za6 (ze9 r p a):=by
 unfold za6 ze9
 rw[qfg,List.set_append,if_neg (by simp[h.m])]
 simp[h.m]
noncomputable def zbc(s:Row)(p:Nat)(q:Row):Row:=if pl s p=0 then s else mul s (pow (-1) (pow (pl s p) q))
theorem zj4{s q:Row}{p:Nat}(hs:WF s)(hq:WF q):WF (zbc s p q):=by
 unfold zbc;split
 ·exact hs
 ·exact ze1 hs (zbw _ (zbw _ hq))
theorem zfo{s r:Row}{p:Nat}{a:Int}(hs:WF s)(hr:WF r)(hp:p<24):zbc s p (ze9 r p a)=filled (only p (instead r p a)) s:=by
 have hi:=zbu p a hr
 have hq:=zv6 p a hr
 refine zq8 (zj4 hs hq) (za4 hs hi) (λi hi'=>?_) λj hj=>?_
 ·rw[zrt hs hi hp,zu6]
  have e:mk (ze9 r p a) i=qiz (mk r i) a:=zen _ (λk=>qiz k a) (by simp) _
  unfold zbc
  split
  ·next h=>rw[h];simp
  ·rw[qce hs (zbw _ (zbw _ hq)),zx6,zx6,e,qku];lia
 ·rw[zgt hs hi hp j hj,zf2 a hr hp]
  have e:pl (ze9 r p a) j=if p=j then 0 else qiz (pl r j) a:=by
   unfold pl ze9
   simp only[zh1,qe9,hr.p,hp,and_true]
   split
   ·rfl
   ·exact zen _ (λk=>qiz k a) (by simp) _
  unfold zbc
  split
  ·next h=>
   rw[h]
   by_cases hpj:p=j
   ·subst hpj;rw[if_pos rfl,h];simp
   ·rw[if_neg hpj];simp
  ·rw[zw5 hs (zbw _ (zbw _ hq)),zta,zta,e]
   by_cases hpj:p=j
   ·subst hpj;simp
   ·simp only[if_neg hpj,qku];lia
noncomputable def drop1(r:Row)(p:Nat):Row:={ r with place:=r.place.set p 0 }
theorem zjr{r:Row}(p:Nat)(h:WF r):WF (drop1 r p):=⟨h.m,by simp[drop1,h.p]⟩
theorem zvg{r:Row}{p:Nat}(h:WF r)(hp:p<24):(za6 r).take (8+p)++[0]++(za6 r).drop (8+p+1)=za6 (drop1 r p):=by
 have hl:8+p<(za6 r).length:=by rw[zbf h];lia
 have e:(za6 r).set (8+p) 0=za6 (drop1 r p):=by
  unfold za6 drop1
  rw[List.set_append,if_neg (by simp[h.m])]
  simp[h.m]
 rw[<-e,List.set_eq_take_append_cons_drop,if_pos hl]
 simp
theorem zt4{r:Row}{p:Nat}(h:WF r)(hp:p<24):drop1 r p=filled (only p nought) r:=by
 refine zq8 (zjr p h) (za4 h zb6) (λi hi=>?_) λj hj=>?_
 ·rw[zrt h zb6 hp,zx7];show mk r i=_;lia
 ·rw[zgt h zb6 hp j hj,zdo]
  show (r.place.set p 0).getD j 0=_
  rw[zh1,h.p]
  by_cases e:p=j
  ·rw[if_pos ⟨e,hp⟩,if_pos e];simp
  ·rw[if_neg (by lia),if_neg e];show pl r j=_;lia
noncomputable def qbd(b:Option (Nat×Int))(x:Int×Nat):Option (Nat×Int):=if x.1=0 then b else match b with
 |none=>some (x.2,x.1)
 |some q=>if x.1.natAbs<q.2.natAbs then some (x.2,x.1) else b
theorem zpp(l:List Int):nearest l=(l.zipIdx 0).foldl qbd none:=rfl
noncomputable def NOk(l:List Int)(k:Nat):Option (Nat×Int)->Prop
 |none=>∀j,j<k->l.getD j 0=0
 |some (p,a)=>p<k/\l.getD p 0=a/\a≠0/\∀j,j<k->l.getD j 0≠0->a.natAbs<=(l.getD j 0).natAbs/\(j<p->a.natAbs<(l.getD j 0).natAbs)
theorem qbe{l:List Int}{k:Nat}{b:Option (Nat×Int)}{x:Int}(h:NOk l k b)(hx:l.getD k 0=x):NOk l (k+1) (qbd b (x,k)):=by
 unfold qbd
 by_cases h0:x=0
 ·rw[if_pos h0]
  cases b with
  |none=>intro j hj;by_cases e:j=k
         ·subst e;rw[hx,h0]
         ·exact h j (by lia)
  |some q=>
   obtain⟨p,a⟩:=q
   obtain⟨h1,h2,h3,h4⟩:=h
   refine⟨by lia,h2,h3,λj hj hn=>?_⟩
   by_cases e:j=k
   ·subst e;rw[hx,h0]at hn;exact absurd rfl hn
   ·exact h4 j (by lia) hn
 ·rw[if_neg h0]
  cases b with
  |none=>
   refine⟨by lia,hx,h0,λj hj hn=>?_⟩
   by_cases e:j=k
   ·subst e;rw[hx];exact⟨qfh _,λz=>by lia⟩
   ·exact absurd (h j (by lia)) hn
  |some q=>
   obtain⟨p,a⟩:=q
   obtain⟨h1,h2,h3,h4⟩:=h
   simp only
   split
   ·next hlt=>
    refine⟨by lia,hx,h0,λj hj hn=>?_⟩
    by_cases e:j=k
    ·subst e;rw[hx];exact⟨qfh _,λz=>by lia⟩
    ·have:=(h4 j (by lia) hn).1
     exact⟨by lia,λ_=>by lia⟩
   ·next hlt=>
    refine⟨by lia,h2,h3,λj hj hn=>?_⟩
    by_cases e:j=k
    ·subst e;rw[hx];exact⟨by lia,λz=>by lia⟩
    ·exact h4 j (by lia) hn
theorem zto(l:List Int):∀(t:List Int)(k:Nat)(b:Option (Nat×Int)),l.drop k=t->NOk l k b->NOk l l.length ((t.zipIdx k).foldl qbd b)
 |[],k,b,e,h=>by
  have hk:l.length<=k:=List.drop_eq_nil_iff.mp e
  cases b with
  |none=>exact λj hj=>h j (by lia)
  |some q=>
   obtain⟨p,a⟩:=q
   obtain⟨h1,h2,h3,h4⟩:=h
   refine⟨?_,h2,h3,λj hj hn=>h4 j (by lia) hn⟩
   rcases qko p l.length with z|z
   ·exact z
   ·rw[qgg,qgv z]at h2
    exact absurd h2.symm h3
 |x::t,k,b,e,h=>by
  have hk:k<l.length:=by
   rcases qko k l.length with z|z
   ·exact z
   ·rw[qjz z]at e;cases e
  rw[qf9 hk]at e
  injection e with e1 e2
  simp only[List.zipIdx_cons,qg5]
  exact zto l t (k+1) _ e2 (qbe h (by simp[qhj,hk,e1]))
theorem zim(l:List Int):NOk l l.length (nearest l):=by
 rw[zpp]
 exact zto l l 0 none rfl (λj hj=>by lia)
theorem zu4{l:List Int}{p p':Nat}{a a':Int}(h:NOk l l.length (some (p,a)))(h':NOk l l.length (some (p',a'))):p=p'/\a=a':=by
 obtain⟨h1,h2,h3,h4⟩:=h
 obtain⟨g1,g2,g3,g4⟩:=h'
 have u:=h4 p' g1 (by rw[g2];exact g3)
 have v:=g4 p h1 (by rw[h2];exact h3)
 rw[g2]at u;rw[h2]at v
 have e:p=p':=by
  rcases Nat.lt_trichotomy p p' with z|z|z
  ·have:=v.2 z;lia
  ·exact z
  ·have:=u.2 z;lia
 subst e
 exact⟨rfl,by rw[<-h2,<-g2]⟩
theorem nearest_none{l:List Int}:nearest l=none↔∀j,j<l.length->l.getD j 0=0:=by
 have h:=zim l
 constructor
 ·intro e;rw[e]at h;exact h
 ·intro z
  cases e:nearest l with
  |none=>rfl
  |some q=>
   obtain⟨p,a⟩:=q
   rw[e]at h
   exact absurd (h.2.1.symm.trans (z p h.1)) h.2.2.1
theorem nearest_some{l:List Int}{p:Nat}{a:Int}:nearest l=some (p,a)↔NOk l l.length (some (p,a)):=by
 constructor
 ·intro e;have h:=zim l;rw[e]at h;exact h
 ·intro z
  cases e:nearest l with
  |none=>exact absurd (z.2.1.symm.trans (nearest_none.mp e p z.1)) z.2.2.1
  |some q=>
   obtain⟨p',a'⟩:=q
   have h:=zim l
   rw[e]at h
   obtain⟨rfl,rfl⟩:=zu4 h z
   rfl
theorem empty_iff{l:List Int}:Kp168.empty l=true↔∀j,j<l.length->l.getD j 0=0:=by
 unfold Kp168.empty
 rw[qfm]
 constructor
 ·intro h j hj
  have:=h l[j] (qig hj)
  simpa [qhj,hj] using this
 ·intro h x hx
  obtain⟨j,hj,rfl⟩:=qhv.mp hx
  have:=h j hj
  simpa [qhj,hj] using this
noncomputable def Lo(n:Nat)(r:Row):Prop:=∀j,n<=j->pl r j=0
noncomputable def zg4(n:Nat)(s:List Row):Filling:=s++itself.drop n
structure SOk(n:Nat)(s:List Row):Prop where
 len:s.length=n
 le:n<=24
 wf:∀x∈s,WF x
 lo:∀x∈s,Lo n x
theorem qam{r:Row}(h:WF r){j:Nat}(hj:24<=j):pl r j=0:=by
 unfold pl;rw[qgg,qgv (by rw[h.p];exact hj)];rfl
theorem zyb(n:Nat):Lo n nought:=λj _=>zdo j
theorem zyc{n:Nat}{a b:Row}(ha:WF a)(hb:WF b)(h1:Lo n a)(h2:Lo n b):Lo n (mul a b):=λj hj=>by rw[zw5 ha hb,h1 j hj,h2 j hj];rfl
theorem zx9{n:Nat}{a:Row}(k:Int)(h:Lo n a):Lo n (pow k a):=λj hj=>by rw[zta,h j hj];simp
theorem zf6{n p:Nat}(h:p<n):Lo n (ofPlace p):=λj hj=>by rw[zf1,if_neg (by lia)]
theorem zya(n p:Nat):Lo n (ofMark p):=λj _=>zdo j
theorem zrw{n m:Nat}{r:Row}(h:Lo n r)(hm:n<=m):Lo m r:=λj hj=>h j (by lia)
theorem zn2{n k:Nat}{r:Row}(hr:WF r)(h:Lo n r):Lo (k+n) (Kp169.shift k r):=λj hj=>by
 show ((qfk k 0++r.place).take 24).getD j 0=0
 rw[qgg,List.getElem?_take]
 split
 ·rw[qhb (by simp;lia)]
  have:=h (j - k) (by lia)
  unfold pl at this
  rw[qgg]at this
  simpa using this
 ·rfl
theorem zyd{n:Nat}:∀(l:List Int)(t:List Row)(acc:Row),WF acc->(∀x∈t,WF x/\Lo n x)->Lo n acc->Lo n ((qfs pow l t).foldl mul acc)
 |[],_,_,_,_,h=>by simpa using h
 |_::_,[],_,_,_,h=>by simpa using h
 |k::l,x::t,acc,ha,ht,h=>by
  have hx:=ht x (by simp)
  simp only[qgy,qg5]
  exact zyd l t _ (ze1 ha (zbw k hx.1)) (λy hy=>ht y (by simp[hy])) (zyc ha (zbw k hx.1) h (zx9 k hx.2))
theorem zpr{n:Nat}{s:List Row}{r:Row}(hr:WF r)(hs:∀x∈s,WF x)(hl:∀x∈s,Lo n x):Lo n (filled s r):=
 zyd _ _ _ (zfy hr) (λx hx=>⟨hs x hx,hl x hx⟩) (λj _=>zdo j)
theorem qcu(n:Nat):∀x∈itself.drop n,WF x:=λx hx=>zop x (qfv hx)
theorem zg3{n:Nat}{s:List Row}{r:Row}(h:SOk n s)(hr:WF r)(hl:Lo n r):filled (zg4 n s) r=filled s r:=
 zvi hr h.wf (qcu n) λk hk=>by
  obtain⟨i,hi,e⟩:=qhv.mp hk
  rw[qgj]at hi
  have:=hl (n+i) (by lia)
  unfold pl at this
  have hn:=h.len
  subst hn
  rw[List.getElem_drop]at e
  rw[<-e]
  simpa [qhj,show s.length+i<r.place.length by lia] using this
theorem zwx(n:Nat):∀x∈itself.drop n,∃q,n<=q/\q<24/\x=ofPlace q:=λx hx=>by
 obtain⟨i,hi,e⟩:=qhv.mp hx
 rw[qgj,ziq]at hi
 refine⟨n+i,by lia,by lia,?_⟩
 rw[List.getElem_drop]at e
 rw[<-e]
 simp[itself]
theorem zty{n p:Nat}{s:List Row}{x:Row}(hx:WF x)(hp:p<n)(hn:n<=24):(zg4 n s).map (filled (only p x))=zg4 n (s.map (filled (only p x))):=by
 unfold zg4
 rw[qfg]
 congr 1
 conv=>rhs;rw[<-List.map_id (itself.drop n)]
 refine qg0 λy hy=>?_
 obtain⟨q,h1,h2,rfl⟩:=zwx n y hy
 show filled (only p x) (ofPlace q)=ofPlace q
 have h0:pl (ofPlace q) p=0:=by rw[zf1,if_neg (by lia)]
 refine zq8 (za4 (zau q) hx) (zau q) (λi hi=>?_) λj hj=>?_
 ·rw[zrt (zau q) hx (by lia),h0];simp
 ·rw[zgt (zau q) hx (by lia) j hj,h0]
  by_cases e:p=j
  ·subst e;rw[if_pos rfl,h0];simp
  ·rw[if_neg e];simp
theorem zcl(q:Nat):Kp168.small (ofPlace q)=true:=by
 have h:∀k∈(ofPlace q).mark++(ofPlace q).place,k=0\/k=1:=by
  intro k hk
  rcases qfj.mp hk with z|z
  ·exact .inl (qg7 z)
  ·rcases qht z with y|y
   ·exact .inl (qg7 y)
   ·exact .inr y
 unfold Kp168.small
 rw[qfm]
 intro k hk
 rcases h k hk with rfl|rfl <;> decide
theorem zup{n:Nat}{s:List Row}:(zg4 n s).all Kp168.small=s.all Kp168.small:=by
 unfold zg4
 rw[qg1]
 have:(itself.drop n).all Kp168.small=true:=qfm.mpr λx hx=>by
  obtain⟨q,_,_,rfl⟩:=zwx n x hx
  exact zcl q
 rw[this,qjr]
theorem zs4{n p:Nat}{s:List Row}{r:Row}{a:Int}(h:SOk n s)(hr:WF r)(hl:Lo n r)(hp:p<n):SOk n (s.map (filled (only p (instead r p a)))) where
 len:=by rw[qe9];exact h.len
 le:=h.le
 wf:=λx hx=>by
  obtain⟨y,hy,rfl⟩:=qf0.mp hx
  exact za4 (h.wf y hy) (zbu p a hr)
 lo:=λx hx=>by
  obtain⟨y,hy,rfl⟩:=qf0.mp hx
  intro j hj
  have h24:=h.le
  by_cases hj2:j<24
  ·rw[zgt (h.wf y hy) (zbu p a hr) (by lia) j hj2,if_neg (by lia),h.lo y hy j hj,zf2 a hr (by lia),if_neg (by lia),hl j hj];simp
  ·exact qam (za4 (h.wf y hy) (zbu p a hr)) (by lia)
theorem qag{n p:Nat}{s:List Row}(h:SOk n s)(hp:p<n):SOk n (s.map (filled (only p nought))) where
 len:=by rw[qe9];exact h.len
 le:=h.le
 wf:=λx hx=>by
  obtain⟨y,hy,rfl⟩:=qf0.mp hx
  exact za4 (h.wf y hy) zb6
 lo:=λx hx=>by
  obtain⟨y,hy,rfl⟩:=qf0.mp hx
  intro j hj
  have h24:=h.le
  by_cases hj2:j<24
  ·rw[zgt (h.wf y hy) zb6 (by lia) j hj2,if_neg (by lia),h.lo y hy j hj,zdo];simp
  ·exact qam (za4 (h.wf y hy) zb6) (by lia)
theorem qdm{r:Row}{p:Nat}{a:Int}(hr:WF r)(hp:p<24)(ha:pl r p=a)(j:Nat)(hj:j<24) :
  pl (filled (only p (instead r p a)) r) j=if p=j then a else qkt (pl r j) a:=by
 rw[zgt hr (zbu p a hr) hp j hj,zf2 a hr hp,ha]
 by_cases e:p=j
 ·rw[if_pos e,if_pos e,if_pos e];lia
 ·rw[if_neg e,if_neg e,if_neg e,Int.fmod_def]
  rw[qku];lia
theorem zys{x a:Int}(h:a≠0):(qkt x a).natAbs<a.natAbs:=by
 rcases Int.lt_or_lt_of_ne h with z|z
 ·have e:qkt x a=-(qkt (-x) (-a)):=by rw[Int.neg_fmod_neg];lia
  have h1:=qj0 (-x) (show 0 < -a by lia)
  have h2:=Int.fmod_lt_of_pos (-x) (show 0 < -a by lia)
  lia
 ·have h1:=qj0 x z
  have h2:=Int.fmod_lt_of_pos x z
  lia
theorem zn0{r:Row}{p:Nat}{a:Int}(hr:WF r)(hn:nearest r.place=some (p,a))(he:Kp168.empty ((filled (only p (instead r p a)) r).place.set p 0)=false):∃p' a',nearest (filled (only p (instead r p a)) r).place=some (p',a')/\a'.natAbs<a.natAbs:=by
 have hk:=nearest_some.mp hn
 obtain⟨h1,h2,h3,h4⟩:=hk
 rw[hr.p]at h1
 have wf1:WF (filled (only p (instead r p a)) r):=za4 hr (zbu p a hr)
 have hex:∃j,j<24/\j≠p/\pl (filled (only p (instead r p a)) r) j≠0:=by
  refine Classical.byContradiction λhc=>?_
  have:Kp168.empty ((filled (only p (instead r p a)) r).place.set p 0)=true:=empty_iff.mpr λj hj=>by
   rw[qj6,wf1.p]at hj
   rw[zh1]
   split
   ·rfl
   ·next hne=>
    refine Classical.byContradiction λhz=>hc ⟨j,hj,λe=>hne ⟨e.symm,by rw[wf1.p];lia⟩,hz⟩
  rw[this]at he;cases he
 obtain⟨j,hj,hjp,hz⟩:=hex
 cases e:nearest (filled (only p (instead r p a)) r).place with
 |none=>exact absurd (nearest_none.mp e j (by rw[wf1.p];exact hj)) hz
 |some q=>
  obtain⟨p',a'⟩:=q
  refine⟨p',a',rfl,?_⟩
  have g:=(nearest_some.mp e).2.2.2 j (by rw[wf1.p];exact hj) hz
  have v:=qdm hr h1 (show pl r p=a from h2) j hj
  rw[if_neg (Ne.symm hjp)]at v
  have w:(filled (only p (instead r p a)) r).place.getD j 0=qkt (pl r j) a:=v
  rw[w]at g
  have:=zys (x:=pl r j) h3
  lia
noncomputable abbrev Res:=Int ⊕ Filling
theorem zti{f:Nat}{s:Filling}{r:Row}(h:nearest r.place=none):Kp168.one (f+1) s r=if Kp168.empty r.mark then .inr s else .inl (-61):=by
 rw[Kp168.one,h]
theorem qau{f:Nat}{s:Filling}{r:Row}{p:Nat}{a:Int}(h:nearest r.place=some (p,a)):Kp168.one (f+1) s r =
  (let x:=only p (instead r p a)
   let s1:=s.map (filled x)
   let r1:=filled x r
   if !(s1.all Kp168.small && Kp168.small r1) then .inl (-75)
   else if Kp168.empty (r1.place.set p 0) then (if Kp168.empty r1.mark then .inr (s1.map (filled (only p nought))) else .inl (-61))
   else Kp168.one f s1 r1):=by
 rw[Kp168.one,h]
theorem zin{n:Nat}{r:Row}{p:Nat}{a:Int}(hr:WF r)(hl:Lo n r)(h:nearest r.place=some (p,a)):p<n/\p<24/\pl r p=a/\a≠0:=by
 obtain⟨h1,h2,h3,_⟩:=nearest_some.mp h
 rw[hr.p]at h1
 refine⟨?_,h1,h2,h3⟩
 rcases qko p n with z|z
 ·exact z
 ·exact absurd ((show pl r p=a from h2).symm.trans (hl p z)) h3
theorem zth{f n:Nat}{s:List Row}{r:Row}{p:Nat}{a:Int}(h:SOk n s)(hr:WF r)(hl:Lo n r)(hn:nearest r.place=some (p,a)) :
  Kp168.one (f+1) (zg4 n s) r =
   if (s.map λy=>zbc y p (ze9 r p a)).all Kp168.small=false then .inl (-75)
   else if Kp168.small (zbc r p (ze9 r p a))=false then .inl (-75)
   else if Kp168.empty (drop1 (zbc r p (ze9 r p a)) p).place then (if Kp168.empty (zbc r p (ze9 r p a)).mark then .inr (zg4 n ((s.map λy=>zbc y p (ze9 r p a)).map λy=>drop1 y p)) else .inl (-61))
   else Kp168.one f (zg4 n (s.map λy=>zbc y p (ze9 r p a))) (zbc r p (ze9 r p a)):=by
 obtain⟨hp,hp24,_,_⟩:=zin hr hl hn
 rw[qau hn]
 have e1:(s.map λy=>zbc y p (ze9 r p a))=s.map (filled (only p (instead r p a))):=qg0 λy hy=>zfo (h.wf y hy) hr hp24
 have e2:zbc r p (ze9 r p a)=filled (only p (instead r p a)) r:=zfo hr hr hp24
 have e3:((s.map (filled (only p (instead r p a)))).map λy=>drop1 y p)=(s.map (filled (only p (instead r p a)))).map (filled (only p nought)):=
  qg0 λy hy=>zt4 ((zs4 h hr hl hp).wf y hy) hp24
 simp only[e1,e2,e3]
 rw[zty (zbu p a hr) hp h.le,zup,zty zb6 hp h.le]
 show _=_
 have e4:(drop1 (filled (only p (instead r p a)) r) p).place=(filled (only p (instead r p a)) r).place.set p 0:=rfl
 rw[e4]
 cases (s.map (filled (only p (instead r p a)))).all Kp168.small <;> cases Kp168.small (filled (only p (instead r p a)) r) <;> simp
theorem zwc{n:Nat}{s:List Row}{r:Row}{p:Nat}{a:Int}(h:SOk n s)(hr:WF r)(hl:Lo n r)(hn:nearest r.place=some (p,a)) :
  SOk n (s.map λy=>zbc y p (ze9 r p a))/\WF (zbc r p (ze9 r p a))/\Lo n (zbc r p (ze9 r p a)):=by
 obtain⟨hp,hp24,_,_⟩:=zin hr hl hn
 have e1:(s.map λy=>zbc y p (ze9 r p a))=s.map (filled (only p (instead r p a))):=qg0 λy hy=>zfo (h.wf y hy) hr hp24
 have e2:zbc r p (ze9 r p a)=filled (only p (instead r p a)) r:=zfo hr hr hp24
 rw[e1,e2]
 refine⟨zs4 h hr hl hp,za4 hr (zbu p a hr),λj hj=>?_⟩
 by_cases hj2:j<24
 ·rw[zgt hr (zbu p a hr) hp24 j hj2,if_neg (by lia),hl j hj,zf2 a hr hp24,if_neg (by lia),hl j hj];simp
 ·exact qam (za4 hr (zbu p a hr)) (by lia)
theorem zug{n:Nat}{r:Row}{p:Nat}{a:Int}(hr:WF r)(hl:Lo n r)(hn:nearest r.place=some (p,a))(he:Kp168.empty (drop1 (zbc r p (ze9 r p a)) p).place=false) :
  ∃p' a',nearest (zbc r p (ze9 r p a)).place=some (p',a')/\a'.natAbs<a.natAbs:=by
 obtain⟨hp,hp24,_,_⟩:=zin hr hl hn
 have e2:zbc r p (ze9 r p a)=filled (only p (instead r p a)) r:=zfo hr hr hp24
 rw[e2]at he ⊢
 exact zn0 hr hn he
theorem zpb{n p:Nat}{s:List Row}(h:SOk n s)(hp:p<n):SOk n (s.map λy=>drop1 y p):=by
 have e:(s.map λy=>drop1 y p)=s.map (filled (only p nought)):=qg0 λy hy=>zt4 (h.wf y hy) (by have:=h.le;lia)
 rw[e];exact qag h hp
theorem znm{r:Row}(h:Kp168.small r=true)(hr:WF r)(j:Nat):(pl r j).natAbs<=2 ^ 30:=by
 unfold Kp168.small at h
 rw[qfm]at h
 by_cases hj:j<24
 ·have hm:r.place.getD j 0∈r.mark++r.place:=by
   have hj':j<r.place.length:=by rw[hr.p];exact hj
   rw[qgg,qf2 hj']
   exact qgf _ (qig hj')
  have:=h _ hm
  have hM:MOST=1073741824:=by decide
  simp only[qft,decide_eq_true_eq,hM]at this
  show (r.place.getD j 0).natAbs<=1073741824
  lia
 ·rw[qam hr (by lia)];decide
noncomputable def zcm(n:Nat)(s:List Row)(e:Row):Res:=if Kp168.small (filled s e)=false then .inl (-75) else Kp168.one STEPS (zg4 n s) (filled s e)
noncomputable def ROk(n:Nat):Res->Prop
 |.inl _=>True
 |.inr t=>∃s,t=zg4 n s/\SOk n s
noncomputable def zvt:Filling->List Row->Res
 |s,[]=>.inr s
 |s,e::l=>let r:=filled s e
  if !Kp168.small r then .inl (-75) else match Kp168.one STEPS s r with
  |.inl v=>.inl v
  |.inr t=>zvt t l
theorem zua:∀(l:List Row)(k:Nat)(s:Filling),(match Kp168.all k s l with|.inl x=>(.inl x.1:Res)|.inr t=>.inr t)=zvt s l
 |[],k,s=>rfl
 |e::l,k,s=>by
  unfold Kp168.all zvt
  simp only
  cases Kp168.small (filled s e) with
  |false=>simp
  |true=>
   simp only[qkm,qfz,if_false]
   cases Kp168.one STEPS s (filled s e) with
   |inl v=>rfl
   |inr t=>exact zua l (k+1) t
theorem zqo{n:Nat}{s:List Row}{e:Row}{l:List Row}(h:SOk n s)(he:WF e)(hl:Lo n e):zvt (zg4 n s) (e::l)=match zcm n s e with|.inl v=>.inl v|.inr t=>zvt t l:=by
 unfold zcm
 rw[zvt,zg3 h he hl]
 cases Kp168.small (filled s e) with
 |false=>simp
 |true=>
  simp only[qkm,qfz,Bool.true_eq_false,if_false]
  cases Kp168.one STEPS (zg4 n s) (filled s e) <;> rfl
theorem zp1{n:Nat}{s:List Row}(h:SOk n s):(zg4 n s).take n=s:=by
 unfold zg4
 rw[<-h.len];simp
theorem zpa{n:Nat}(h:n<=24):SOk n ((qgh n).map ofPlace) where
 len:=by simp
 le:=h
 wf:=λx hx=>by
  obtain⟨p,_,rfl⟩:=qf0.mp hx
  exact zau p
 lo:=λx hx=>by
  obtain⟨p,hp,rfl⟩:=qf0.mp hx
  exact zf6 (qhl.mp hp)
theorem zne{n:Nat}(h:n<=24):zg4 n ((qgh n).map ofPlace)=itself:=by
 unfold zg4 itself
 rw[<-qiq,<-qfg]
 congr 1
 rw[show Kp168.PLACES=n+(24 - n) by show 24=_;lia,List.range_add,List.drop_append]
 simp
noncomputable def zzr(r:Row):Bool:=(za6 r).all λk=>decide (-IN<=k) && decide (k<=IN)
theorem qbp{n:Nat}{es:List Row}(h:n<=24)(hm:es.length<=256)(hes:∀e∈es,WF e/\Lo n e):Kp168.good ⟨es,es.length,n⟩=es.all zzr:=by
 unfold Kp168.good
 have e1:es.all (Kp168.goodRow n)=es.all zzr:=by
  rw[qgw,qfm,qfm]
  refine⟨λg x hx=>?_,λg x hx=>?_⟩
  ·have:=g x hx
   unfold Kp168.goodRow at this
   rw[qft]at this
   exact this.1
  ·unfold Kp168.goodRow
   rw[qft]
   refine⟨g x hx,empty_iff.mpr λj hj=>?_⟩
   have:=(hes x hx).2 (n+j) (by lia)
   unfold pl at this
   simpa [qgg,List.getElem?_drop] using this
 show (decide (es.length<=256) && decide (n<=24) && es.all (Kp168.goodRow n))=_
 rw[e1,decide_eq_true hm,decide_eq_true h];simp
noncomputable def zdz(n:Nat)(es:List Row):Int ⊕ List Row:=if es.all zzr=false then .inl (-22) else match zvt itself es with
 |.inl v=>.inl v
 |.inr t=>.inr (t.take n)
theorem zqm{n:Nat}{es:List Row}(h:n<=24)(hm:es.length<=256)(hes:∀e∈es,WF e/\Lo n e) :
  (match Kp168.answer ⟨es,es.length,n⟩ with|.num v=>(.inl v:Int ⊕ List Row)|.at_ v _=>.inl v|.out o=>.inr o)=zdz n es:=by
 unfold Kp168.answer zdz
 rw[qbp h hm hes]
 cases es.all zzr with
 |false=>simp
 |true=>
  simp only[Bool.true_eq_false,if_false]
  rw[<-zua es 0 itself]
  cases Kp168.all 0 itself es with
  |inl x=>rfl
  |inr t=>rfl
open Kp169 (E Es Bytes St Known Kind kindE kindEs more held shift alike)
inductive Sx where
 |zero|number|name (x:Bytes)|call (f:Bytes) (n:Nat)|pw (k:Int)|times|over|alike|compare
mutual
noncomputable def za7:E->List Sx
 |.num v _=>[if v=0 then .zero else .number]
 |.var x=>[.name x]
 |.call f l=>zdx l++[.call f l.list.length]
 |.neg e=>za7 e
 |.bin op a b=>za7 a++(za7 b++[if op=42 then .times else if op=47 then .over else .alike])
 |.pow e k=>za7 e++[.pw k]
 |.ite a b x y=>za7 a++(za7 b++(.compare::(za7 x++(za7 y++[.alike]))))
noncomputable def zdx:Es->List Sx
 |.nil=>[]
 |.cons e l=>za7 e++zdx l
end
structure MS where
 s:St
 st:List Row
noncomputable abbrev MR:=Except Int MS
noncomputable def zut(m:MS)(k:List Row->Row->Row->MR):MR:=match m.st.reverse with
 |y::x::r=>k r.reverse x y
 |_=>.error 0
noncomputable def zdf(args of:List Row)(k:Nat)(s:St):St:=(qh5 args of).foldl (λt x=>alike x.1 (shift k x.2) t) s
noncomputable def zbd(known:Known)(ps:List Bytes):Sx->MS->MR
 |.zero,m=>match more 1 m.s with
  |.error v=>.error v
  |.ok q=>.ok ⟨q.2,m.st++[ofPlace q.1]⟩
 |.number,m=>.ok ⟨m.s,m.st++[nought]⟩
 |.name x,m=>match ps.idxOf? x with
  |some k=>.ok ⟨m.s,m.st++[ofPlace k]⟩
  |none=>match known.find? λq=>q.1 == x with
   |some q=>(match more q.2.places m.s with
    |.error v=>.error v
    |.ok z=>.ok ⟨z.2,m.st++[shift z.1 q.2.comes]⟩)
   |none=>.error 0
 |.call f _,m=>match known.find? λq=>q.1 == f with
  |some q=>if m.st.length<q.2.of.length then .error 0 else (match more q.2.places m.s with
   |.error v=>.error v
   |.ok z=>.ok ⟨zdf (m.st.drop (m.st.length - q.2.of.length)) q.2.of z.1 z.2,m.st.take (m.st.length - q.2.of.length)++[shift z.1 q.2.comes]⟩)
  |none=>.error 0
 |.pw k,m=>match m.st.reverse with
  |x::r=>if Kp168.small (pow k x) then .ok ⟨m.s,r.reverse++[pow k x]⟩ else .error (-75)
  |[]=>.error 0
 |.times,m=>zut m λr x y=>if Kp168.small (mul x y) then .ok ⟨m.s,r++[mul x y]⟩ else .error (-75)
 |.over,m=>zut m λr x y=>if Kp168.small (mul x (pow (-1) y)) then .ok ⟨m.s,r++[mul x (pow (-1) y)]⟩ else .error (-75)
 |.alike,m=>zut m λr x y=>.ok ⟨alike x y m.s,r++[x]⟩
 |.compare,m=>zut m λr x y=>.ok ⟨alike x y m.s,r⟩
noncomputable def zjx(known:Known)(ps:List Bytes):List Sx->MS->MR
 |[],m=>.ok m
 |x::l,m=>match zbd known ps x m with
  |.error v=>.error v
  |.ok m'=>zjx known ps l m'
theorem zeu{s:St}{st:List Row}{x y:Row}{k:List Row->Row->Row->MR}:zut ⟨s,st++[x]++[y]⟩ k=k st x y:=by
 unfold zut;simp
noncomputable def zqp(known:Known)(ps:List Bytes)(u:Bytes×Option Nat):Prop:=match u.2 with
 |none=>(ps.idxOf? u.1).isSome=true\/(known.find? λq=>q.1 == u.1).isSome=true
 |some n=>∃q,(known.find? λq=>q.1 == u.1)=some q/\q.2.of.length=n
theorem znc(known:Known)(ps:List Bytes):∀(l:Es)(s:St)(rs:List Row)(s':St),kindEs known ps l s=.ok (rs,s')->rs.length=l.list.length
 |.nil,s,rs,s',h=>by
  simp only[kindEs,Except.ok.injEq,Prod.mk.injEq]at h
  rw[<-h.1];rfl
 |.cons e l,s,rs,s',h=>by
  simp only[kindEs,bind,Except.bind,pure,Except.pure]at h
  cases h1:kindE known ps e s with
  |error v=>rw[h1]at h;cases h
  |ok x=>
   rw[h1]at h
   simp only at h
   cases h2:kindEs known ps l x.2 with
   |error v=>rw[h2]at h;cases h
   |ok y=>
    rw[h2]at h
    simp only[Except.ok.injEq,Prod.mk.injEq]at h
    rw[<-h.1]
    simp only[qfd,Es.list]
    rw[znc known ps l x.2 y.1 y.2 h2]
mutual
theorem zco(known:Known)(ps:List Bytes):∀(e:E)(rest:List Sx)(s:St)(st:List Row),(∀u∈e.uses,zqp known ps u) ->
  zjx known ps (za7 e++rest) ⟨s,st⟩=match kindE known ps e s with|.error v=>.error v|.ok q=>zjx known ps rest ⟨q.2,st++[q.1]⟩
 |.num v t,rest,s,st,h=>by
  simp only[za7,kindE]
  by_cases hv:v=0
  ·simp only[hv,if_true,qgx,qgm,zjx,zbd,bind,Except.bind,pure,Except.pure]
   cases more 1 s <;> rfl
  ·simp only[hv,if_false,qgx,qgm,zjx,zbd]
 |.var x,rest,s,st,h=>by
  have hu:=h (x,none) (by simp[E.uses])
  simp only[za7,kindE,qgx,qgm,zjx,zbd]
  cases h1:ps.idxOf? x with
  |some k=>rfl
  |none=>
   cases h2:known.find? λq=>q.1 == x with
   |none=>
    exfalso
    simp only[zqp,h1,h2]at hu
    simp at hu
   |some q=>
    simp only[bind,Except.bind,pure,Except.pure]
    cases more q.2.places s <;> rfl
 |.call f l,rest,s,st,h=>by
  have hu:=h (f,some l.list.length) (by simp[E.uses])
  obtain⟨q,hq,hlen⟩:=hu
  simp only at hq
  simp only[za7,kindE,qf7]
  rw[zpd known ps l _ s st λu hm=>h u (by simp[E.uses,hm])]
  simp only[bind,Except.bind,pure,Except.pure]
  cases h1:kindEs known ps l s with
  |error v=>rfl
  |ok a=>
   have hal:=znc known ps l s a.1 a.2 h1
   simp only[qgx,qgm,zjx,zbd,hq]
   have e1:(st++a.1).length - q.2.of.length=st.length:=by rw[qfb,hal,hlen];lia
   rw[if_neg (by rw[qfb,hal,hlen];lia),e1]
   cases more q.2.places a.2 with
   |error v=>rfl
   |ok z=>simp[zdf]
 |.neg e,rest,s,st,h=>by
  simp only[za7,kindE]
  exact zco known ps e rest s st λu hm=>h u (by simpa [E.uses] using hm)
 |.bin op a b,rest,s,st,h=>by
  simp only[za7,kindE,qf7]
  rw[zco known ps a _ s st λu hm=>h u (by simp[E.uses,hm])]
  simp only[bind,Except.bind,pure,Except.pure]
  cases kindE known ps a s with
  |error v=>rfl
  |ok x=>
   simp only
   rw[zco known ps b _ x.2 _ λu hm=>h u (by simp[E.uses,hm])]
   cases kindE known ps b x.2 with
   |error v=>rfl
   |ok y=>
    simp only[qgx,qgm,zjx]
    by_cases h42:op=42
    ·simp only[h42,if_true,zbd,zeu,held]
     cases Kp168.small (mul x.1 y.1) <;> simp
    ·by_cases h47:op=47
     ·simp only[h47,if_true,held]
      simp only[show ¬(47=42) by decide,if_false]
      rw[show (zbd known ps Sx.over ⟨y.2,st++[x.1]++[y.1]⟩)=(if Kp168.small (mul x.1 (pow (-1) y.1)) then .ok ⟨y.2,st++[mul x.1 (pow (-1) y.1)]⟩ else .error (-75)) by rw[zbd,zeu]]
      cases Kp168.small (mul x.1 (pow (-1) y.1)) <;> simp
     ·simp only[h42,h47,if_false,zbd,zeu]
 |.pow e k,rest,s,st,h=>by
  simp only[za7,kindE,qf7]
  rw[zco known ps e _ s st λu hm=>h u (by simpa [E.uses] using hm)]
  simp only[bind,Except.bind,pure,Except.pure]
  cases kindE known ps e s with
  |error v=>rfl
  |ok x=>
   simp only[qgx,qgm,zjx,zbd,held]
   simp only[List.reverse_append,List.reverse_cons,List.reverse_nil,qgm,qgx,List.reverse_reverse]
   cases Kp168.small (pow k x.1) <;> simp
 |.ite a b x y,rest,s,st,h=>by
  simp only[za7,kindE,qf7]
  rw[zco known ps a _ s st λu hm=>h u (by simp[E.uses,hm])]
  simp only[bind,Except.bind,pure,Except.pure]
  cases kindE known ps a s with
  |error v=>rfl
  |ok p=>
   simp only
   rw[zco known ps b _ p.2 _ λu hm=>h u (by simp[E.uses,hm])]
   cases kindE known ps b p.2 with
   |error v=>rfl
   |ok q=>
    simp only[qgx,zjx,zbd,zeu]
    rw[qf7,qf7,zco known ps x _ _ _ λu hm=>h u (by simp[E.uses,hm])]
    cases kindE known ps x (alike p.1 q.1 q.2) with
    |error v=>rfl
    |ok u=>
     simp only
     rw[zco known ps y _ _ _ λu hm=>h u (by simp[E.uses,hm])]
     cases kindE known ps y u.2 with
     |error v=>rfl
     |ok v=>simp only[qgx,qgm,zjx,zbd,zeu]
theorem zpd(known:Known)(ps:List Bytes):∀(l:Es)(rest:List Sx)(s:St)(st:List Row),(∀u∈l.uses,zqp known ps u) ->
  zjx known ps (zdx l++rest) ⟨s,st⟩=match kindEs known ps l s with|.error v=>.error v|.ok q=>zjx known ps rest ⟨q.2,st++q.1⟩
 |.nil,rest,s,st,h=>by simp[zdx,kindEs]
 |.cons e l,rest,s,st,h=>by
  simp only[zdx,kindEs,qf7]
  rw[zco known ps e _ s st λu hm=>h u (by simp[Es.uses,hm])]
  simp only[bind,Except.bind,pure,Except.pure]
  cases kindE known ps e s with
  |error v=>rfl
  |ok x=>
   simp only
   rw[zpd known ps l _ x.2 _ λu hm=>h u (by simp[Es.uses,hm])]
   cases kindEs known ps l x.2 with
   |error v=>rfl
   |ok y=>simp
end
open Kp169 (E Es Bytes St Known Kind kindE kindEs more held shift alike placesOf renumber closed found)
theorem qcd{n:Nat}:∀(f:Nat)(s:List Row)(r:Row)(t:Filling),SOk n s->WF r->Lo n r->Kp168.one f (zg4 n s) r=.inr t->∃s',t=zg4 n s'/\SOk n s'
 |0,s,r,t,h,_,_,e=>by
  rw[Kp168.one]at e
  cases e
  exact⟨s,rfl,h⟩
 |f+1,s,r,t,h,hr,hl,e=>by
  cases hn:nearest r.place with
  |none=>
   rw[zti hn]at e
   split at e
   ·cases e;exact⟨s,rfl,h⟩
   ·cases e
  |some q=>
   obtain⟨p,a⟩:=q
   rw[zth h hr hl hn]at e
   obtain⟨h1,h2,h3⟩:=zwc h hr hl hn
   split at e
   ·cases e
   ·split at e
    ·cases e
    ·split at e
     ·split at e
      ·cases e;exact⟨_,rfl,zpb h1 (zin hr hl hn).1⟩
      ·cases e
     ·exact qcd f _ _ t h1 h2 h3 e
theorem zwr{n:Nat}{s:List Row}{e:Row}{t:Filling}(h:SOk n s)(he:WF e)(hl:Lo n e)(q:zcm n s e=.inr t):∃s',t=zg4 n s'/\SOk n s':=by
 unfold zcm at q
 split at q
 ·cases q
 ·exact qcd _ _ _ t h (zbt he h.wf) (zpr he h.wf h.lo) q
theorem zzg{n:Nat}:∀(es:List Row)(s:List Row)(t:Filling),SOk n s->(∀e∈es,WF e/\Lo n e)->zvt (zg4 n s) es=.inr t->∃s',t=zg4 n s'/\SOk n s'
 |[],s,t,h,_,e=>by cases e;exact⟨s,rfl,h⟩
 |x::es,s,t,h,hes,e=>by
  obtain⟨hx,hlx⟩:=hes x (by simp)
  rw[zqo h hx hlx]at e
  cases q:zcm n s x with
  |inl v=>rw[q]at e;cases e
  |inr u=>
   rw[q]at e
   obtain⟨s1,rfl,h1⟩:=zwr h hx hlx q
   exact zzg es s1 t h1 (λy hy=>hes y (by simp[hy])) e
theorem zsz{n:Nat}{es:List Row}{o:List Row}(hn:n<=24)(hes:∀e∈es,WF e/\Lo n e)(h:zdz n es=.inr o):SOk n o:=by
 unfold zdz at h
 split at h
 ·cases h
 ·cases q:zvt itself es with
  |inl v=>rw[q]at h;cases h
  |inr t=>
   rw[q]at h
   cases h
   rw[<-zne hn]at q
   obtain⟨s',rfl,h'⟩:=zzg es _ t (zpa hn) hes q
   rw[zp1 h'];exact h'
noncomputable def zbn(b:List Nat)(p:Nat):List Nat:=if b.contains p then b else b++[p]
noncomputable def zdq(b:List Nat)(r:Row):List Nat:=(qgh 24).foldl (λb p=>if pl r p=0 then b else zbn b p) b
theorem zgs(l:List Row):placesOf l=l.foldl zdq []:=by
 unfold placesOf
 rw[List.foldl_flatMap]
 congr 1
 funext b r
 unfold zdq
 rw[List.foldl_filter]
 congr 1
 funext b p
 unfold pl zbn
 by_cases h:r.place.getD p 0=0 <;> simp[h]
structure OOk(b:List Nat):Prop where
 nd:b.Nodup
 lt:∀p∈b,p<24
theorem qa9{b:List Nat}{p:Nat}(h:OOk b)(hp:p<24):OOk (zbn b p):=by
 unfold zbn
 split
 ·exact h
 ·next hc=>
  have hm:p ∉ b:=by simpa using hc
  refine⟨?_,λq hq=>?_⟩
  ·rw[qjl]
   exact⟨h.nd,by simp,λx hx y hy=>by rw[qfq.mp hy];exact λe=>hm (e▸hx)⟩
  ·rcases qfj.mp hq with z|z
   ·exact h.lt q z
   ·rw[qfq.mp z];exact hp
theorem zgw(r:Row):∀(l:List Nat)(b:List Nat),OOk b->(∀p∈l,p<24) ->
  OOk (l.foldl (λb p=>if pl r p=0 then b else zbn b p) b)/\(∀p∈b,p∈l.foldl (λb p=>if pl r p=0 then b else zbn b p) b) ∧
   ∀p∈l,pl r p≠0->p∈l.foldl (λb p=>if pl r p=0 then b else zbn b p) b
 |[],b,h,_=>⟨h,λ_ x=>x,λ_ x=>by simp at x⟩
 |q::l,b,h,hl=>by
  simp only[qg5]
  have hb:OOk (if pl r q=0 then b else zbn b q):=by
   split
   ·exact h
   ·exact qa9 h (hl q (by simp))
  obtain⟨h1,h2,h3⟩:=zgw r l _ hb λp hp=>hl p (by simp[hp])
  refine⟨h1,λp hp=>h2 p ?_,λp hp hn=>?_⟩
  ·split
   ·exact hp
   ·unfold zbn;split
    ·exact hp
    ·simp[hp]
  ·rcases qfo.mp hp with rfl|hp
   ·refine h2 p ?_
    rw[if_neg hn]
    unfold zbn;split
    ·next hc=>simpa using hc
    ·simp
   ·exact h3 p hp hn
theorem zxe{b:List Nat}(r:Row)(h:OOk b):OOk (zdq b r)/\(∀p∈b,p∈zdq b r)/\∀p,p<24->pl r p≠0->p∈zdq b r:=by
 obtain⟨h1,h2,h3⟩:=zgw r (qgh 24) b h λp hp=>qhl.mp hp
 exact⟨h1,h2,λp hp hn=>h3 p (qhl.mpr hp) hn⟩
theorem zig:∀(l:List Row)(b:List Nat),OOk b->OOk (l.foldl zdq b)/\(∀p∈b,p∈l.foldl zdq b)/\∀r∈l,∀p,p<24->pl r p≠0->p∈l.foldl zdq b
 |[],b,h=>⟨h,λ_ x=>x,λ_ x=>by simp at x⟩
 |r::l,b,h=>by
  obtain⟨g1,g2,g3⟩:=zxe r h
  obtain⟨h1,h2,h3⟩:=zig l _ g1
  refine⟨h1,λp hp=>h2 p (g2 p hp),λx hx p hp hn=>?_⟩
  rcases qfo.mp hx with rfl|hx
  ·exact h2 p (g3 p hp hn)
  ·exact h3 x hx p hp hn
theorem zny:∀(n:Nat)(l:List Nat),l.Nodup->(∀p∈l,p<n)->l.length<=n
 |0,l,_,h=>by
  cases l with
  |nil=>simp
  |cons x l=>exact absurd (h x (by simp)) (by lia)
 |n+1,l,hd,h=>by
  have:=zny n (l.filter (· != n)) (hd.filter _) λp hp=>by
   obtain⟨h1,h2⟩:=qg9.mp hp
   have:=h p h1
   have:p≠n:=by simpa using h2
   lia
  have e:l.length<=(l.filter (· != n)).length+1:=by
   by_cases hm:n∈l
   ·have:=List.length_erase_of_mem hm
    have q:l.erase n=l.filter (· != n):=hd.erase_eq_filter n
    rw[<-q];lia
   ·have q:l.filter (· != n)=l:=qkf.mpr λx hx=>by
     simp only[bne_iff_ne,ne_eq];exact λz=>hm (z▸hx)
    rw[q];lia
  lia
theorem zgr(l:List Row):OOk (placesOf l)/\(placesOf l).length<=24/\∀r∈l,∀p,p<24->pl r p≠0->p∈placesOf l:=by
 rw[zgs]
 obtain⟨h1,_,h3⟩:=zig l [] ⟨by simp,by simp⟩
 exact⟨h1,zny 24 _ h1.nd h1.lt,h3⟩
theorem zd9{o:List Nat}{r:Row}(ho:o.length<=24):(renumber o r).place=o.map (pl r)++qfk (24 - o.length) 0:=by
 unfold renumber
 simp only[Kp168.PLACES]
 apply List.ext_getElem
 ·simp;lia
 ·intro i h1 h2
  simp only[List.getElem_map,List.getElem_range]
  by_cases hi:i<o.length
  ·rw[List.getElem_append_left (by simpa using hi)]
   simp[hi,pl]
  ·rw[List.getElem_append_right (by simpa using hi)]
   simp[qgv (by lia:o.length<=i)]
theorem zn7{o:List Nat}{r:Row}(ho:o.length<=24):r.mark++o.map (pl r)++qfk (24 - o.length) 0=za6 (renumber o r):=by
 unfold za6
 rw[zd9 ho]
 show _=r.mark++_
 simp
theorem zet{o:List Nat}{r:Row}(h:WF r):WF (renumber o r):=⟨h.m,by simp[renumber,Kp168.PLACES]⟩
theorem zk4{o:List Nat}{r:Row}(ho:o.length<=24):Lo o.length (renumber o r):=λj hj=>by
 unfold pl
 rw[zd9 ho,qgg,qhb (by simpa using hj),qhx]
 split <;> rfl
theorem zcw{o:List Nat}{r:Row}(h:WF r)(ho:o.length<=24)(hc:∀p,p<24->pl r p≠0->p∈o):Kp168.small (renumber o r)=Kp168.small r:=by
 unfold Kp168.small
 rw[zd9 ho]
 show (r.mark++_).all _=_
 rw[qg1,qg1,qg1]
 congr 1
 have e0:((qfk (24 - o.length) (0:Int)).all λk=>decide (-MOST<=k) && decide (k<=MOST))=true:=
  qfm.mpr λx hx=>by rw[qg7 hx];decide
 rw[e0,qjr,qgw,qfm,qfm]
 refine⟨λg x hx=>?_,λg x hx=>?_⟩
 ·obtain⟨j,hj,rfl⟩:=qhv.mp hx
  have ej:pl r j=r.place[j]:=by unfold pl;simp[qhj,hj]
  by_cases hz:pl r j=0
  ·rw[<-ej,hz];decide
  ·have:=g (pl r j) (qf0.mpr ⟨j,hc j (by rw[h.p]at hj;exact hj) hz,rfl⟩)
   rw[ej]at this;exact this
 ·obtain⟨p,hp,rfl⟩:=qf0.mp hx
  by_cases hj:p<r.place.length
  ·exact g _ (by unfold pl;simp[qhj,hj])
  ·have:pl r p=0:=by unfold pl;rw[qgg,qgv (by lia)];rfl
   rw[this];decide
structure KOk(q:Kind):Prop where
 wc:WF q.comes
 lc:Lo q.places q.comes
 sc:Kp168.small q.comes=true
 wo:∀x∈q.of,WF x
 lo:∀x∈q.of,Lo q.places x
 le:q.places<=24
theorem zza{rows:List Row}{comes:Row}(h1:∀x∈rows,WF x)(h2:WF comes)(h3:Kp168.small comes=true):KOk (closed rows comes):=by
 obtain⟨g1,g2,g3⟩:=zgr (rows++[comes])
 refine⟨zet h2,zk4 g2,(zcw h2 g2 (g3 comes (by simp))).trans h3,λx hx=>?_,λx hx=>?_,g2⟩
 ·obtain⟨y,hy,rfl⟩:=qf0.mp hx
  exact zet (h1 y hy)
 ·obtain⟨y,hy,rfl⟩:=qf0.mp hx
  exact zk4 g2
theorem zqb{rows:List Row}{comes:Row}(h1:∀x∈rows,WF x)(h2:WF comes) :
  ((closed rows comes).comes::(closed rows comes).of).all Kp168.small=(rows.all Kp168.small && Kp168.small comes):=by
 obtain⟨g1,g2,g3⟩:=zgr (rows++[comes])
 have e1:Kp168.small (closed rows comes).comes=Kp168.small comes:=zcw h2 g2 (g3 comes (by simp))
 have e2:(closed rows comes).of.all Kp168.small=rows.all Kp168.small:=by
  show (rows.map (renumber _)).all _=_
  rw[qjf,qgw,qfm,qfm]
  refine⟨λg x hx=>?_,λg x hx=>?_⟩
  ·have:=g x hx
   rw[<-zcw (h1 x hx) g2 (g3 x (by simp[hx]))];exact this
  ·show Kp168.small (renumber _ x)=true
   rw[zcw (h1 x hx) g2 (g3 x (by simp[hx]))];exact g x hx
 rw[qhy,e1,e2,Bool.and_comm]
theorem zp4{α β:Type}:∀(l:List α)(b:β),l.foldl (λb _=>b) b=b
 |[],_=>rfl
 |_::l,b=>zp4 l b
theorem zr9{u:Nat}:closed [] (ofMark u)=⟨0,0,[],ofMark u⟩:=by
 have e:placesOf [ofMark u]=[]:=by
  have hz:∀p,pl (ofMark u) p=0:=zdo
  rw[zgs]
  show zdq [] (ofMark u)=[]
  unfold zdq
  simp only[hz,if_true]
  exact zp4 _ _
 unfold closed
 simp only[qgm,e]
 show Kind.mk 0 0 [] (renumber [] (ofMark u))=_
 congr 1
open Kp169 (E Es Bytes St Known Kind kindE kindEs more held shift alike placesOf renumber closed found Item)
structure ROk'(n:Nat)(r:Row):Prop where
 wf:WF r
 lo:Lo n r
 sm:Kp168.small r=true
structure MOk(k:Nat)(m:MS):Prop where
 le:m.s.n<=24
 ge:k<=m.s.n
 st:∀r∈m.st,ROk' m.s.n r
 eq:∀e∈m.s.eqs,WF e/\Lo m.s.n e
theorem ROk'.mono{n m:Nat}{r:Row}(h:ROk' n r)(hm:n<=m):ROk' m r:=⟨h.wf,zrw h.lo hm,h.sm⟩
theorem zoz:Kp168.small nought=true:=by decide
theorem zoy(u:Nat):Kp168.small (ofMark u)=true:=by
 have h:∀k∈(ofMark u).mark++(ofMark u).place,k=0\/k=1:=by
  intro k hk
  rcases qfj.mp hk with z|z
  ·rcases qht z with y|y
   ·exact .inl (qg7 y)
   ·exact .inr y
  ·exact .inl (qg7 z)
 unfold Kp168.small
 rw[qfm]
 intro k hk
 rcases h k hk with rfl|rfl <;> decide
theorem zkd{k:Nat}{r:Row}(h:Kp168.small r=true):Kp168.small (shift k r)=true:=by
 unfold Kp168.small at *
 rw[qfm]at *
 intro x hx
 rcases qfj.mp hx with z|z
 ·exact h x (qgq _ z)
 ·rcases qfj.mp (qg4 z) with y|y
  ·rw[qg7 y];decide
  ·exact h x (qgf _ y)
theorem zgy{k:Nat}{s:St}{q:Nat×St}(h:more k s=.ok q):q.1=s.n/\q.2.n=s.n+k/\q.2.eqs=s.eqs/\s.n+k<=24:=by
 unfold more at h
 split at h
 ·next hl=>cases h;exact⟨rfl,rfl,rfl,hl⟩
 ·cases h
theorem qbf{k:Nat}{s:St}{v:Int}(h:more k s=.error v):v=-28:=by
 unfold more at h
 split at h
 ·cases h
 ·cases h;rfl
theorem zd8{k:Nat}{m:MS}{s':St}{l:List Row}(h:MOk k m)(hn:m.s.n<=s'.n)(h24:s'.n<=24)(hl:∀r∈l,r∈m.st\/ROk' s'.n r)(he:∀e∈s'.eqs,e∈m.s.eqs\/(WF e/\Lo s'.n e)):MOk k ⟨s',l⟩ where
 le:=h24
 ge:=qgn h.ge hn
 st:=λr hr=>(hl r hr).elim (λz=>(h.st r z).mono hn) id
 eq:=λe hm=>(he e hm).elim (λz=>⟨(h.eq e z).1,zrw (h.eq e z).2 hn⟩) id
theorem zh6{n:Nat}{x y:Row}(hx:WF x/\Lo n x)(hy:WF y/\Lo n y):WF (mul x (pow (-1) y))/\Lo n (mul x (pow (-1) y)):=
 ⟨ze1 hx.1 (zbw _ hy.1),zyc hx.1 (zbw _ hy.1) hx.2 (zx9 _ hy.2)⟩
theorem zh3(k:Nat):∀(a o:List Row)(s:St),(zdf a o k s).n=s.n
 |[],o,s=>by simp[zdf]
 |_::_,[],s=>by simp[zdf]
 |x::a,y::o,s=>by
  show (zdf a o k (alike x (shift k y) s)).n=s.n
  rw[zh3 k a o];rfl
theorem zf8(k:Nat):∀(a o:List Row)(s:St),(zdf a o k s).eqs=s.eqs++qfs (λx y=>mul x (pow (-1) (shift k y))) a o
 |[],o,s=>by simp[zdf]
 |_::_,[],s=>by simp[zdf]
 |x::a,y::o,s=>by
  show (zdf a o k (alike x (shift k y) s)).eqs=_
  rw[zf8 k a o]
  simp[alike]
theorem zk1{α β γ:Type}{f:α->β->γ}{z:γ}:∀{a:List α}{b:List β},z∈qfs f a b->∃x∈a,∃y∈b,z=f x y
 |[],_,h=>by simp at h
 |_::_,[],h=>by simp at h
 |x::a,y::b,h=>by
  simp only[qgy,qfo]at h
  rcases h with rfl|h
  ·exact⟨x,by simp,y,by simp,rfl⟩
  ·obtain⟨x',h1,y',h2,e⟩:=zk1 h
   exact⟨x',by simp[h1],y',by simp[h2],e⟩
theorem zyv{known:Known}{x:Bytes}{q:Bytes×Kind}(hk:∀q∈known,KOk q.2)(h:(known.find? λq=>q.1 == x)=some q):KOk q.2:=hk q (qhe h)
theorem idx_lt{ps:List Bytes}{x:Bytes}{k:Nat}(h:ps.idxOf? x=some k):k<ps.length:=by
 have:=qir.mp h
 exact this.1
theorem rev2{α:Type}{l r:List α}{y x:α}(h:l.reverse=y::x::r):l=r.reverse++[x]++[y]:=by
 have:=congrArg List.reverse h
 simpa using this
theorem rev1{α:Type}{l r:List α}{x:α}(h:l.reverse=x::r):l=r.reverse++[x]:=by
 have:=congrArg List.reverse h
 simpa using this
theorem ztq{known:Known}{ps:List Bytes}(hk:∀q∈known,KOk q.2){x:Sx}{m m':MS}(h:MOk ps.length m)(e:zbd known ps x m=.ok m'):MOk ps.length m':=by
 have two:∀{k:List Row->Row->Row->MR},zut m k=.ok m'->∃r a b,m.st=r++[a]++[b]/\k r a b=.ok m':=by
  intro k e
  unfold zut at e
  split at e
  ·next y x r hr=>exact⟨_,_,_,rev2 hr,e⟩
  ·cases e
 cases x with
 |zero=>
  simp only[zbd]at e
  cases q:more 1 m.s with
  |error v=>rw[q]at e;cases e
  |ok z=>
   rw[q]at e;cases e
   obtain⟨h1,h2,h3,h4⟩:=zgy q
   refine zd8 h (by lia) (by lia) (λr hr=>?_) λe he=>.inl (h3▸he)
   rcases qfj.mp hr with z|z
   ·exact .inl z
   ·rw[qfq.mp z]
    exact .inr ⟨zau _,zf6 (by lia),zcl _⟩
 |number=>
  simp only[zbd]at e;cases e
  refine zd8 h (qfh _) h.le (λr hr=>?_) λe he=>.inl he
  rcases qfj.mp hr with z|z
  ·exact .inl z
  ·rw[qfq.mp z]
   exact .inr ⟨zb6,zyb _,zoz⟩
 |name y=>
  simp only[zbd]at e
  cases q:ps.idxOf? y with
  |some k=>
   rw[q]at e;cases e
   refine zd8 h (qfh _) h.le (λr hr=>?_) λe he=>.inl he
   rcases qfj.mp hr with z|z
   ·exact .inl z
   ·rw[qfq.mp z]
    exact .inr ⟨zau _,zf6 (qfn (idx_lt q) h.ge),zcl _⟩
  |none=>
   rw[q]at e
   simp only at e
   cases f:known.find? λq=>q.1 == y with
   |none=>rw[f]at e;cases e
   |some g=>
    rw[f]at e
    simp only at e
    have gk:=zyv hk f
    cases q2:more g.2.places m.s with
    |error v=>rw[q2]at e;cases e
    |ok z=>
     rw[q2]at e;cases e
     obtain⟨h1,h2,h3,h4⟩:=zgy q2
     refine zd8 h (by lia) (by lia) (λr hr=>?_) λe he=>.inl (h3▸he)
     rcases qfj.mp hr with z'|z'
     ·exact .inl z'
     ·rw[qfq.mp z',h1]
      exact .inr ⟨zfz _ gk.wc,h2▸zn2 gk.wc gk.lc,zkd gk.sc⟩
 |call f n=>
  simp only[zbd]at e
  cases q:known.find? λq=>q.1 == f with
  |none=>rw[q]at e;cases e
  |some g=>
   rw[q]at e
   simp only at e
   have gk:=zyv hk q
   split at e
   ·cases e
   ·cases q2:more g.2.places m.s with
    |error v=>rw[q2]at e;cases e
    |ok z=>
     rw[q2]at e;cases e
     obtain⟨h1,h2,h3,h4⟩:=zgy q2
     refine zd8 h (by rw[zh3];lia) (by rw[zh3];lia) (λr hr=>?_) λe he=>?_
     ·rcases qfj.mp hr with z'|z'
      ·exact .inl (qg4 z')
      ·rw[qfq.mp z',h1,zh3]
       exact .inr ⟨zfz _ gk.wc,h2▸zn2 gk.wc gk.lc,zkd gk.sc⟩
     ·rw[zf8,h3]at he
      rcases qfj.mp he with z'|z'
      ·exact .inl z'
      ·obtain⟨a,ha,b,hb,rfl⟩:=zk1 z'
       have ra:=h.st a (qfv ha)
       rw[zh3,h2,h1]
       exact .inr (zh6 ⟨ra.wf,zrw ra.lo (by lia)⟩ ⟨zfz _ (gk.wo b hb),zn2 (gk.wo b hb) (gk.lo b hb)⟩)
 |pw k=>
  simp only[zbd]at e
  split at e
  ·next x r hr=>
   split at e
   ·next hs=>
    cases e
    have hst:=rev1 hr
    have rx:=h.st x (by rw[hst];simp)
    refine zd8 h (qfh _) h.le (λy hy=>?_) λe he=>.inl he
    rcases qfj.mp hy with z|z
    ·exact .inl (by rw[hst];exact qgq _ z)
    ·rw[qfq.mp z];exact .inr ⟨zbw _ rx.wf,zx9 _ rx.lo,hs⟩
   ·cases e
  ·cases e
 |times=>
  simp only[zbd]at e
  obtain⟨r,a,b,hst,e⟩:=two e
  have ra:=h.st a (by rw[hst];simp)
  have rb:=h.st b (by rw[hst];simp)
  split at e
  ·next hs=>
   cases e
   refine zd8 h (qfh _) h.le (λy hy=>?_) λe he=>.inl he
   rcases qfj.mp hy with z|z
   ·exact .inl (by rw[hst];simp[z])
   ·rw[qfq.mp z];exact .inr ⟨ze1 ra.wf rb.wf,zyc ra.wf rb.wf ra.lo rb.lo,hs⟩
  ·cases e
 |over=>
  simp only[zbd]at e
  obtain⟨r,a,b,hst,e⟩:=two e
  have ra:=h.st a (by rw[hst];simp)
  have rb:=h.st b (by rw[hst];simp)
  split at e
  ·next hs=>
   cases e
   refine zd8 h (qfh _) h.le (λy hy=>?_) λe he=>.inl he
   rcases qfj.mp hy with z|z
   ·exact .inl (by rw[hst];simp[z])
   ·rw[qfq.mp z]
    have:=zh6 ⟨ra.wf,ra.lo⟩ ⟨rb.wf,rb.lo⟩
    exact .inr ⟨this.1,this.2,hs⟩
  ·cases e
 |alike=>
  simp only[zbd]at e
  obtain⟨r,a,b,hst,e⟩:=two e
  have ra:=h.st a (by rw[hst];simp)
  have rb:=h.st b (by rw[hst];simp)
  cases e
  refine zd8 h (qfh _) h.le (λy hy=>?_) λe he=>?_
  ·rcases qfj.mp hy with z|z
   ·exact .inl (by rw[hst];simp[z])
   ·rw[qfq.mp z];exact .inr ra
  ·rcases qfj.mp he with z|z
   ·exact .inl z
   ·rw[qfq.mp z];exact .inr (zh6 ⟨ra.wf,ra.lo⟩ ⟨rb.wf,rb.lo⟩)
 |compare=>
  simp only[zbd]at e
  obtain⟨r,a,b,hst,e⟩:=two e
  have ra:=h.st a (by rw[hst];simp)
  have rb:=h.st b (by rw[hst];simp)
  cases e
  refine zd8 h (qfh _) h.le (λy hy=>.inl (by rw[hst];simp[hy])) λe he=>?_
  rcases qfj.mp he with z|z
  ·exact .inl z
  ·rw[qfq.mp z];exact .inr (zh6 ⟨ra.wf,ra.lo⟩ ⟨rb.wf,rb.lo⟩)
theorem zrr{known:Known}{ps:List Bytes}(hk:∀q∈known,KOk q.2):∀(l:List Sx)(m m':MS),MOk ps.length m->zjx known ps l m=.ok m'->MOk ps.length m'
 |[],m,m',h,e=>by cases e;exact h
 |x::l,m,m',h,e=>by
  simp only[zjx]at e
  cases q:zbd known ps x m with
  |error v=>rw[q]at e;cases e
  |ok m1=>rw[q]at e;exact zrr hk l m1 m' (ztq hk h q) e
noncomputable def zec(k:Nat):MS:=⟨⟨k,[]⟩,[]⟩
theorem zkb{k:Nat}(h:k<=24):MOk k (zec k):=⟨h,qfh _,λr hr=>by simp[zec]at hr,λe he=>by simp[zec]at he⟩
noncomputable def zga(known:Known)(ps:List Bytes)(l:List Sx):Int ⊕ Kind:=match zjx known ps l (zec ps.length) with
 |.error v=>.inl v
 |.ok m=>if 256<m.s.eqs.length then .inl (-28) else match zdz m.s.n m.s.eqs with
  |.inl v=>.inl v
  |.inr o=>if ((qgh ps.length).map λk=>filled o (ofPlace k)).all Kp168.small && Kp168.small (filled o (m.st.headD nought)) then
    .inr (closed ((qgh ps.length).map λk=>filled o (ofPlace k)) (filled o (m.st.headD nought))) else .inl (-75)
theorem zt0{known:Known}{ps:List Bytes}{e:E}(hk:∀q∈known,KOk q.2)(hp:ps.length<=24)(hu:∀u∈e.uses,zqp known ps u):found known ps e=zga known ps (za7 e):=by
 unfold found zga
 have hrun:=zco known ps e [] ⟨ps.length,[]⟩ [] hu
 rw[qgb]at hrun
 show _=(match zjx known ps (za7 e) ⟨⟨ps.length,[]⟩,[]⟩ with|.error v=>_|.ok m=>_)
 rw[hrun]
 cases hq:kindE known ps e ⟨ps.length,[]⟩ with
 |error v=>rfl
 |ok q=>
  rw[hq]at hrun
  simp only[zjx,qgm]at hrun ⊢
  obtain⟨r,s⟩:=q
  have hm:=zrr hk _ _ _ (zkb hp) hrun
  simp only at hm ⊢
  by_cases hl:256<s.eqs.length
  ·rw[if_pos hl]
   show (if Kp168.EQS<s.eqs.length then _ else _)=_
   rw[if_pos (show Kp168.EQS<s.eqs.length from hl)]
  ·rw[if_neg hl]
   show (if Kp168.EQS<s.eqs.length then _ else _)=_
   rw[if_neg (show ¬Kp168.EQS<s.eqs.length from hl)]
   have ha:=zqm hm.le (by show s.eqs.length<=256;lia) hm.eq
   simp only at ha
   cases hs:zdz s.n s.eqs with
   |inl v=>
    rw[hs]at ha
    cases hA:Kp168.answer ⟨s.eqs,s.eqs.length,s.n⟩ with
    |num w=>rw[hA]at ha;cases ha;rfl
    |at_ w k=>rw[hA]at ha;cases ha;rfl
    |out o=>rw[hA]at ha;cases ha
   |inr o=>
    have ok:=zsz hm.le hm.eq hs
    rw[hs]at ha
    cases hA:Kp168.answer ⟨s.eqs,s.eqs.length,s.n⟩ with
    |num w=>rw[hA]at ha;cases ha
    |at_ w k=>rw[hA]at ha;cases ha
    |out o'=>
     rw[hA]at ha
     simp only[Sum.inr.injEq]at ha
     subst ha
     have hr:=hm.st r (by simp)
     have e1:((qgh ps.length).map λk=>filled (o'++itself.drop s.n) (ofPlace k))=(qgh ps.length).map λk=>filled o' (ofPlace k):=
      qg0 λk hk'=>zg3 ok (zau k) (zf6 (qfn (qhl.mp hk') hm.ge))
     have e2:filled (o'++itself.drop s.n) r=filled o' r:=zg3 ok hr.wf hr.lo
     simp only[e1,e2,List.headD_cons]
     rw[zqb (λx hx=>by
      obtain⟨k,_,rfl⟩:=qf0.mp hx
      exact zbt (zau k) ok.wf) (zbt hr.wf ok.wf)]
     rfl
theorem qeq{known:Known}{ps:List Bytes}{l:List Sx}{q:Kind}(hk:∀q∈known,KOk q.2)(hp:ps.length<=24)(h:zga known ps l=.inr q):KOk q:=by
 unfold zga at h
 cases hr:zjx known ps l (zec ps.length) with
 |error v=>rw[hr]at h;cases h
 |ok m=>
  rw[hr]at h
  simp only at h
  have hm:=zrr hk _ _ _ (zkb hp) hr
  split at h
  ·cases h
  ·cases hs:zdz m.s.n m.s.eqs with
   |inl v=>rw[hs]at h;cases h
   |inr o=>
    rw[hs]at h
    simp only at h
    have ok:=zsz hm.le hm.eq hs
    split at h
    ·next hsm=>
     cases h
     rw[qft]at hsm
     refine zza (λx hx=>?_) (zbt ?_ ok.wf) hsm.2
     ·obtain⟨k,_,rfl⟩:=qf0.mp hx
      exact zbt (zau k) ok.wf
     ·cases hst:m.st with
      |nil=>exact zb6
      |cons a b=>exact (hm.st a (by rw[hst];simp)).wf
    ·cases h
open Kp169 (E Es Bytes St Known Kind kindE kindEs more held shift alike placesOf renumber closed found Item usable rightItem distinct tooMuch wrong)
noncomputable def zd7:Item->Bool
 |.unit _=>true
 |_=>false
noncomputable def isFn:Item->Bool
 |.fn _ _ _=>true
 |_=>false
noncomputable def params:Item->List Bytes
 |.fn _ ps _=>ps
 |_=>[]
noncomputable def zb0:Item->List Sx
 |.unit _=>[]
 |.let_ _ e=>za7 e
 |.fn _ _ e=>za7 e
noncomputable def nu(u:Nat)(i:Item):Nat:=if zd7 i then u+1 else u
noncomputable def zca:Nat->Nat->List Item->Option Nat
 |_,_,[]=>none
 |k,u,i::l=>if 64<=k\/8<nu u i\/6<(params i).length then some k else zca (k+1) (nu u i) l
noncomputable def units(l:List Item):Nat:=(l.filter zd7).length
noncomputable def tooP(l:List Item)(k:Nat):Bool:=decide (Kp169.ITEMS<=k) || (match l[k]? with
 |some (.fn _ ps _)=>decide (Kp169.PARAMS<ps.length)
 |some (.unit _)=>decide (Kp169.UNITS<((l.take (k+1)).filter λi=>match i with
  |.unit _=>true
  |_=>false).length)
 |_=>false)
theorem zui(l:List Item):tooMuch l=(qgh l.length).find? (tooP l):=rfl
theorem zvd:(λi:Item=>match i with|.unit _=>true|_=>false)=zd7:=by
 funext i;cases i <;> rfl
theorem zud(pre:List Item)(i:Item):units (pre++[i])=nu (units pre) i:=by
 unfold units nu;rw[qjg,qfb]
 cases h:zd7 i <;> simp[h]
theorem zlg:∀(rest pre:List Item),units pre<=8->((qke pre.length rest.length).find? (tooP (pre++rest)))=zca pre.length (units pre) rest
 |[],pre,_=>rfl
 |i::rest,pre,hu=>by
  simp only[qfd,qjv,qgs]
  have eu:=zud pre i
  have ei:(pre++i::rest)[pre.length]?=some i:=by simp
  have et:(pre++i::rest).take (pre.length+1)=pre++[i]:=by
   rw[qju,qf4 (by lia)];simp
  have ep:tooP (pre++i::rest) pre.length=decide (64<=pre.length\/8<nu (units pre) i\/6<(params i).length):=by
   unfold tooP
   rw[ei,et,zvd]
   have e2:((pre++[i]).filter zd7).length=nu (units pre) i:=eu
   rw[e2]
   cases i with
   |unit x=>
    show (decide (64<=pre.length) || decide (8<nu (units pre) (.unit x)))=_
    rw[<-Bool.decide_or]
    simp[params]
   |let_ x e=>
    have:nu (units pre) (.let_ x e)=units pre:=rfl
    show (decide (64<=pre.length) || false)=_
    rw[this,qjs]
    exact decide_eq_decide.mpr ⟨λh=>.inl h,λh=>by rcases h with h|h|h;exact h;lia;simp[params]at h⟩
   |fn x ps e=>
    have:nu (units pre) (.fn x ps e)=units pre:=rfl
    show (decide (64<=pre.length) || decide (6<ps.length))=_
    rw[this,<-Bool.decide_or]
    exact decide_eq_decide.mpr ⟨λh=>by rcases h with h|h;exact .inl h;exact .inr (.inr h),λh=>by rcases h with h|h|h;exact .inl h;lia;exact .inr h⟩
  rw[ep,zca]
  by_cases hc:64<=pre.length\/8<nu (units pre) i\/6<(params i).length
  ·rw[decide_eq_true hc,if_pos hc]
  ·rw[decide_eq_false hc,if_neg hc]
   have:=zlg rest (pre++[i]) (by rw[eu];lia)
   rw[qf7,eu,qfb]at this
   exact this
theorem zl4(l:List Item):tooMuch l=zca 0 0 l:=by
 rw[zui,qi7]
 exact zlg l [] (by simp[units])
theorem zlh{k u:Nat}{i:Item}{l:List Item}(h:zca k u (i::l)=none):k<64/\nu u i<=8/\(params i).length<=6/\zca (k+1) (nu u i) l=none:=by
 rw[zca]at h
 by_cases hc:64<=k\/8<nu u i\/6<(params i).length
 ·rw[if_pos hc]at h;cases h
 ·rw[if_neg hc]at h;exact⟨by lia,by lia,by lia,h⟩
theorem zdw:∀(l:List Item)(k u:Nat),zca k u l=none->(∀i∈l,(params i).length<=6)/\(l=[]\/k+l.length<=64)
 |[],_,_,_=>⟨λi hi=>by simp at hi,.inl rfl⟩
 |i::l,k,u,h=>by
  obtain⟨h1,h2,h3,h4⟩:=zlh h
  obtain⟨g1,g2⟩:=zdw l (k+1) _ h4
  refine⟨λj hj=>?_,.inr ?_⟩
  ·rcases qfo.mp hj with rfl|hj
   ·exact h3
   ·exact g1 j hj
  ·rcases g2 with rfl|g2
   ·simp;lia
   ·simp only[qfd];lia
noncomputable def zce:List Item->List Item->Option Nat
 |_,[]=>none
 |before,i::l=>if rightItem before i then zce (before++[i]) l else some before.length
theorem zkp:∀(rest pre:List Item),((qke pre.length rest.length).find? λk=>match (pre++rest)[k]? with
  |some i=>!rightItem ((pre++rest).take k) i
  |none=>false)=zce pre rest
 |[],pre=>rfl
 |i::rest,pre=>by
  simp only[qfd,qjv,qgs]
  have ei:(pre++i::rest)[pre.length]?=some i:=by simp
  have et:(pre++i::rest).take pre.length=pre:=by simp
  rw[ei,et,zce]
  cases h:rightItem pre i with
  |false=>simp[h]
  |true=>
   simp only[h,qkm,if_true]
   have:=zkp rest (pre++[i])
   rw[qf7,qfb]at this
   exact this
theorem zoo(l:List Item):wrong l=zce [] l:=by
 unfold wrong
 rw[qi7]
 exact zkp l []
noncomputable def zom(before:List Bytes):List Bytes->List Bytes->Bool
 |_,[]=>true
 |seen,x::r=>if seen.contains x || before.contains x then false else zom before (seen++[x]) r
theorem zro(before:List Bytes):∀(ps seen:List Bytes),zom before seen ps=(distinct ps && ps.all (λp=>!before.contains p) && ps.all (λp=>!seen.contains p))
 |[],seen=>by simp[zom,distinct]
 |x::r,seen=>by
  rw[zom,zro before r]
  rw[qgw]
  cases h1:seen.contains x <;> cases h2:before.contains x <;> simp_all [distinct] <;> try rfl
  constructor
  ·rintro ⟨⟨a,b⟩,c⟩
   refine⟨⟨⟨?_,a⟩,b⟩,λy hy=>(c y hy).1⟩
   intro hx
   exact (c x hx).2 rfl
  ·rintro ⟨⟨⟨a,b⟩,c⟩,d⟩
   exact⟨⟨b,c⟩,λy hy=>⟨d y hy,λe=>a (e▸hy)⟩⟩
noncomputable def zcs(before:List Item)(ps:List Bytes):Sx->Bool
 |.name x=>ps.contains x || (match before.find? λi=>i.name == x with
  |some i=>!isFn i
  |none=>false)
 |.call f n=>match before.find? λi=>i.name == f with
  |some i=>isFn i && (params i).length == n
  |none=>false
 |_=>true
noncomputable def zl3(before:List Item):Prop:=(before.map Item.name).Nodup
theorem zt1{before:List Item}(hd:zl3 before)(x:Bytes)(P:Item->Bool):(before.any λi=>i.name == x && P i)=(match before.find? λi=>i.name == x with|some i=>P i|none=>false):=by
 induction before with
 |nil=>rfl
 |cons i l ih=>
  have hd':i.name ∉ l.map Item.name/\zl3 l:=qhw.mp hd
  rw[qhz,qgs]
  cases h:(i.name == x) with
  |true=>
   simp only[Bool.true_and]
   have:(l.any λi=>i.name == x && P i)=false:=by
    rw[List.any_eq_false]
    intro j hj
    have hx:i.name=x:=by simpa using h
    have:j.name≠x:=λe=>hd'.1 (qf0.mpr ⟨j,hj,by rw[e,hx]⟩)
    simp[this]
   rw[this,qjs]
  |false=>
   simp only[Bool.false_and,qkn]
   exact ih hd'.2
theorem zj7{before:List Item}{ps:List Bytes}(hd:zl3 before)(x:Bytes):usable before ps (x,none)=zcs before ps (.name x):=by
 unfold usable zcs
 simp only
 rw[<-zt1 hd x λi=>!isFn i]
 congr 1
 congr 1
 funext i
 cases i <;> simp[Item.name,isFn]
theorem zj8{before:List Item}{ps:List Bytes}(hd:zl3 before)(f:Bytes)(n:Nat):usable before ps (f,some n)=zcs before ps (.call f n):=by
 unfold usable zcs
 simp only
 rw[<-zt1 hd f λi=>isFn i && (params i).length == n]
 congr 1
 funext i
 cases i <;> simp[Item.name,isFn,params]
mutual
theorem zbx{before:List Item}{ps:List Bytes}(hd:zl3 before):∀e:E,e.uses.all (usable before ps)=(za7 e).all (zcs before ps)
 |.num v t=>by by_cases h:v=0 <;> simp[E.uses,za7,h,zcs]
 |.var x=>by simp only[E.uses,za7,qhy,qkp,zj7 hd]
 |.call f l=>by
  simp only[E.uses,za7,qhy,qg1,qkp,zj8 hd,zmo hd l,qjr]
  exact Bool.and_comm _ _
 |.neg e=>by simp only[E.uses,za7];exact zbx hd e
 |.bin op a b=>by
  simp only[E.uses,za7,qg1,zbx hd a,zbx hd b,qhy,qkp]
  have:zcs before ps (if op=42 then .times else if op=47 then .over else .alike)=true:=by split <;> (try split) <;> rfl
  rw[this];simp
 |.pow e k=>by simp[E.uses,za7,qg1,zbx hd e,zcs]
 |.ite a b x y=>by simp[E.uses,za7,qg1,zbx hd a,zbx hd b,zbx hd x,zbx hd y,zcs,Bool.and_assoc]
theorem zmo{before:List Item}{ps:List Bytes}(hd:zl3 before):∀l:Es,l.uses.all (usable before ps)=(zdx l).all (zcs before ps)
 |.nil=>rfl
 |.cons e l=>by simp only[Es.uses,zdx,qg1,zbx hd e,zmo hd l]
end
noncomputable def zjb(before:List Item)(i:Item):Bool:=(!(before.map Item.name).contains i.name && zom (before.map Item.name) [] (params i)) && (zb0 i).all (zcs before (params i))
theorem zd3{before:List Item}(hd:zl3 before)(i:Item):rightItem before i=zjb before i:=by
 unfold rightItem zjb
 cases i with
 |unit x=>simp[params,zom,zb0]
 |let_ x e=>simp[params,zom,zb0,zbx hd e]
 |fn x ps e=>
  simp only[params,zb0,zro,zbx hd e]
  have:(ps.all λp=>!([]:List Bytes).contains p)=true:=qfm.mpr λ_ _=>rfl
  rw[this]
  simp[Bool.and_assoc]
theorem zgp{before:List Item}{i:Item}(hd:zl3 before)(h:zjb before i=true):zl3 (before++[i]):=by
 unfold zjb at h
 simp only[qft,qjm]at h
 have hn:i.name ∉ before.map Item.name:=λz=>by
  have:(before.map Item.name).contains i.name=true:=by simpa using z
  rw[this]at h;exact absurd h.1.1 (by simp)
 unfold zl3
 rw[qfg]
 show (before.map Item.name++[i.name]).Nodup
 rw[qjl]
 exact⟨hd,by simp,λx hx y hy=>by rw[qfq.mp hy];exact λe=>hn (e▸hx)⟩
open Kp169 (E Es Bytes St Known Kind kindE kindEs more held shift alike placesOf renumber closed found Item usable rightItem distinct tooMuch wrong kinds)
inductive KO:List Item->Known->Prop where
 |nil:KO [] []
 |cons {i:Item} {q:Kind} {b:List Item} {k:Known}:KOk q->q.of.length=(params i).length->KO b k->KO (i::b) ((i.name,q)::k)
theorem KO.snoc{b:List Item}{k:Known}(h:KO b k){i:Item}{q:Kind}(h1:KOk q)(h2:q.of.length=(params i).length):KO (b++[i]) (k++[(i.name,q)]):=by
 induction h with
 |nil=>exact .cons h1 h2 .nil
 |cons a c _ ih=>exact .cons a c ih
theorem KO.all{b:List Item}{k:Known}(h:KO b k):∀q∈k,KOk q.2:=by
 induction h with
 |nil=>intro q hq;simp at hq
 |cons a c _ ih=>
  intro q hq
  rcases qfo.mp hq with rfl|hq
  ·exact a
  ·exact ih q hq
theorem KO.len{b:List Item}{k:Known}(h:KO b k):b.length=k.length:=by
 induction h with
 |nil=>rfl
 |cons _ _ _ ih=>simp[ih]
theorem KO.find{b:List Item}{k:Known}(h:KO b k)(x:Bytes):match b.find? λi=>i.name == x with
  |some i=>∃q,(k.find? λq=>q.1 == x)=some (x,q)/\q.of.length=(params i).length
  |none=>(k.find? λq=>q.1 == x)=none:=by
 induction h with
 |nil=>rfl
 | @cons i q b k a c _ ih=>
  rw[qgs,qgs]
  cases hx:(i.name == x) with
  |true=>
   have:i.name=x:=by simpa using hx
   subst this
   exact⟨q,rfl,c⟩
  |false=>exact ih
theorem zjs{before:List Item}{known:Known}{ps:List Bytes}(hd:zl3 before)(hk:KO before known){u:Bytes×Option Nat}(h:usable before ps u=true):zqp known ps u:=by
 obtain⟨x,o⟩:=u
 cases o with
 |none=>
  rw[zj7 hd]at h
  unfold zcs at h
  unfold zqp
  simp only
  rw[Bool.or_eq_true]at h
  rcases h with h|h
  ·left
   have hm:x∈ps:=by simpa using h
   cases e:ps.idxOf? x with
   |some k=>rfl
   |none=>
    have:=List.findIdx?_eq_none_iff.mp e x hm
    simp at this
  ·right
   have hf:=hk.find x
   cases e:before.find? λi=>i.name == x with
   |none=>rw[e]at h;simp at h
   |some i=>
    rw[e]at hf
    obtain⟨q,hq,_⟩:=hf
    rw[hq];rfl
 |some n=>
  rw[zj8 hd]at h
  simp only[zcs]at h
  unfold zqp
  simp only
  have hf:=hk.find x
  cases e:before.find? λi=>i.name == x with
  |none=>rw[e]at h;simp at h
  |some i=>
   rw[e]at hf h
   obtain⟨q,hq,hl⟩:=hf
   simp only[qft,beq_iff_eq]at h
   exact⟨_,hq,hl.trans h.2⟩
noncomputable def zcq(known:Known)(u:Nat)(i:Item):Int ⊕ Kind:=if zd7 i then .inr ⟨0,0,[],ofMark u⟩ else zga known (params i) (zb0 i)
noncomputable def zdt:Nat->Known->Nat->List Item->(Int×Nat) ⊕ Known
 |_,known,_,[]=>.inr known
 |k,known,u,i::l=>match zcq known u i with
  |.inl v=>.inl (v,k)
  |.inr q=>zdt (k+1) (known++[(i.name,q)]) (nu u i) l
theorem qbk{known:Known}{ps:List Bytes}{l:List Sx}{q:Kind}(h:zga known ps l=.inr q):q.of.length=ps.length:=by
 unfold zga at h
 split at h
 ·cases h
 ·split at h
  ·cases h
  ·split at h
   ·cases h
   ·split at h
    ·cases h;simp[closed]
    ·cases h
theorem zii{known:Known}{u:Nat}{i:Item}{q:Kind}(hk:∀q∈known,KOk q.2)(hp:(params i).length<=6)(h:zcq known u i=.inr q):KOk q/\q.of.length=(params i).length:=by
 unfold zcq at h
 split at h
 ·next hu=>
  cases h
  cases i with
  |unit x=>exact⟨⟨zv7 u,zya _ _,zoy u,λx hx=>by simp at hx,λx hx=>by simp at hx,qg2 _⟩,rfl⟩
  |let_ x e=>simp[zd7]at hu
  |fn x ps e=>simp[zd7]at hu
 ·exact⟨qeq hk (by lia) h,qbk h⟩
noncomputable def zOf(known:Known)(u:Nat):Item->Int ⊕ Kind
 |.unit _=>.inr (closed [] (ofMark u))
 |.let_ _ e=>found known [] e
 |.fn _ ps e=>found known ps e
theorem zva(k:Nat)(known:Known)(u:Nat)(i:Item)(l:List Item):kinds k known u (i::l)=(match zOf known u i with
  |.inl v=>.inl (v,k)
  |.inr q=>kinds (k+1) (known++[(i.name,q)]) (nu u i) l):=by cases i <;> rfl
theorem zjf:∀(l before:List Item)(known:Known)(k u:Nat),zl3 before->KO before known->zce before l=none->(∀i∈l,(params i).length<=6)->kinds k known u l=zdt k known u l
 |[],_,_,_,_,_,_,_,_=>rfl
 |i::l,before,known,k,u,hd,hk,hr,hp=>by
  rw[zce]at hr
  cases hri:rightItem before i with
  |false=>rw[hri]at hr;simp at hr
  |true=>
   rw[hri]at hr
   simp only[if_true]at hr
   have hpi:=hp i (by simp)
   have e1:zOf known u i=zcq known u i:=by
    unfold zcq zOf
    cases i with
    |unit x=>simp[zd7,zr9]
    |let_ x e=>
     simp only[zd7,qfz,if_false,params,zb0]
     refine zt0 hk.all (by simp) λw hw=>zjs hd hk ?_
     unfold rightItem at hri
     simp only[qft,qfm]at hri
     exact hri.2 w hw
    |fn x ps e=>
     simp only[zd7,qfz,if_false,params,zb0]
     refine zt0 hk.all (by simp only[params]at hpi;lia) λw hw=>zjs hd hk ?_
     unfold rightItem at hri
     simp only[qft,qfm]at hri
     exact hri.2.2 w hw
   rw[zva,e1,zdt]
   cases hq:zcq known u i with
   |inl v=>rfl
   |inr q=>
    simp only
    obtain⟨h1,h2⟩:=zii hk.all hpi hq
    have hdist:=zgp hd ((zd3 hd i).symm.trans hri)
    exact zjf l (before++[i]) _ (k+1) _ hdist (hk.snoc h1 h2) hr λj hj=>hp j (by simp[hj])
noncomputable def zke(l:List Item):(Int×Nat) ⊕ Known:=match zca 0 0 l with
 |some k=>.inl (-28,k)
 |none=>match zce [] l with
  |some k=>.inl (-22,k)
  |none=>zdt 0 [] 0 l
theorem qdn(t:Bytes):Kp169.read t=match Kp169.tokens t with
  |none=>.inl (-71,0)
  |some ts=>if 2048<ts.length then .inl (-28,0) else match Kp169.sheetOf ts with
   |none=>.inl (-71,0)
   |some l=>match zke l with
    |.inl x=>.inl x
    |.inr q=>.inr (l,q):=by
 unfold Kp169.read
 cases Kp169.tokens t with
 |none=>rfl
 |some ts=>
  simp only
  split
  ·rfl
  ·cases Kp169.sheetOf ts with
   |none=>rfl
   |some l=>
    simp only
    unfold zke
    rw[zl4,zoo]
    cases hc:zca 0 0 l with
    |some k=>rfl
    |none=>
     simp only
     cases hr:zce [] l with
     |some k=>rfl
     |none=>
      simp only
      rw[zjf l [] [] 0 0 qjh .nil hr (zdw l 0 0 hc).1]
      cases zdt 0 [] 0 l <;> rfl
open Kp169 (Bytes Tok small digit inName words signs numberAt digits lex tokens)
noncomputable def zb4(c:Nat):Bool:=c == 32 || c == 10
noncomputable def zk7(b:Bytes):Option (List Tok):=lex (b.length+1) b
noncomputable def zj3(w:Bytes):Tok:=⟨if words.contains w then 2 else 0,w⟩
noncomputable def zba:Bytes->Option Tok
 |[]=>none
 |c::r=>if small c then (if 16<((c::r).takeWhile inName).length then none else some (zj3 ((c::r).takeWhile inName)))
  else if digit c then (match numberAt (c::r) with
   |none=>none
   |some (w,_)=>if 15<digits w then none else some ⟨1,w⟩)
  else if signs.contains c then some ⟨2,[c]⟩
  else none
theorem zfc{c:Nat}(h:small c=true):inName c=true:=by unfold inName;rw[h];rfl
theorem blank_iff{c:Nat}:(c=32\/c=10)↔zb4 c=true:=by simp[zb4]
theorem za5{α:Type}(p:α->Bool):∀l:List α,(l.takeWhile p).length<=l.length
 |[]=>by simp
 |x::l=>by
  rw[qgk];split
  ·have:=za5 p l;simp;lia
  ·simp
theorem zbj{α:Type}(p:α->Bool):∀l:List α,l.take (l.takeWhile p).length=l.takeWhile p
 |[]=>rfl
 |x::l=>by
  rw[qgk];split
  ·simp[zbj p l]
  ·simp
theorem zhv{b w q:Bytes}(h:numberAt b=some (w,q)):w++q=b:=by
 unfold numberAt at h
 simp only at h
 have hd:b.takeWhile digit++b.drop (b.takeWhile digit).length=b:=by
  conv=>lhs;lhs;rw[<-zbj digit b]
  exact qg6 _ _
 split at h
 ·next q' hq=>
  split at h
  ·cases h
  ·simp only[qfl.injEq,Prod.mk.injEq]at h
   obtain⟨rfl,rfl⟩:=h
   conv=>rhs;rw[<-hd,hq]
   have:q'.takeWhile digit++q'.drop (q'.takeWhile digit).length=q':=by
    conv=>lhs;lhs;rw[<-zbj digit q']
    exact qg6 _ _
   simp[this]
 ·simp only[qfl.injEq,Prod.mk.injEq]at h
  obtain⟨rfl,rfl⟩:=h
  exact hd
theorem zpo{c:Nat}{r w q:Bytes}(hc:digit c=true)(h:numberAt (c::r)=some (w,q)):1<=w.length:=by
 unfold numberAt at h
 simp only[qgk,hc,if_true]at h
 split at h
 ·split at h
  ·cases h
  ·simp only[qfl.injEq,Prod.mk.injEq]at h
   rw[<-h.1];simp
 ·simp only[qfl.injEq,Prod.mk.injEq]at h
  rw[<-h.1];simp
theorem zc0{b:Bytes}{t:Tok}(h:zba b=some t):1<=t.text.length/\t.text=b.take t.text.length/\t.text.length<=b.length:=by
 cases b with
 |nil=>simp[zba]at h
 |cons c r=>
  simp only[zba]at h
  split at h
  ·next hs=>
   split at h
   ·cases h
   ·simp only[qfl.injEq]at h
    subst h
    refine⟨?_,(zbj inName _).symm,za5 _ _⟩
    show 1<=((c::r).takeWhile inName).length
    rw[qgk,zfc hs];simp
  ·split at h
   ·next hd=>
    cases hn:numberAt (c::r) with
    |none=>rw[hn]at h;cases h
    |some p=>
     obtain⟨w,q⟩:=p
     rw[hn]at h
     simp only at h
     split at h
     ·cases h
     ·cases h
      have:=zhv hn
      refine⟨zpo hd hn,?_,?_⟩
      ·rw[<-this];simp
      ·rw[<-this];simp
   ·split at h
    ·cases h;simp
    ·cases h
theorem zhx{f c:Nat}{r:Bytes}(hb:zb4 c=false):lex (f+1) (c::r)=match zba (c::r) with
  |none=>none
  |some t=>(lex f ((c::r).drop t.text.length)).map λl=>t::l:=by
 have hnb:¬(c=32\/c=10):=λz=>by rw[blank_iff.mp z]at hb;cases hb
 rw[lex,if_neg hnb]
 unfold zba
 by_cases hs:small c=true
 ·simp only[hs,if_true,qgk,zfc hs,qfd]
  by_cases hl:16<(List.takeWhile inName r).length+1
  ·rw[if_pos hl,if_pos hl]
  ·rw[if_neg hl,if_neg hl]
   simp[zj3]
 ·have hs':small c=false:=by simpa using hs
  simp only[hs',qfz,if_false]
  by_cases hd:digit c=true
  ·simp only[hd,if_true]
   cases hn:numberAt (c::r) with
   |none=>rfl
   |some p=>
    obtain⟨w,q⟩:=p
    simp only
    by_cases hl:15<digits w
    ·rw[if_pos hl,if_pos hl]
    ·rw[if_neg hl,if_neg hl]
     have:=zhv hn
     simp only
     rw[<-this];simp
  ·have hd':digit c=false:=by simpa using hd
   simp only[hd',qfz,if_false]
   by_cases hsg:signs.contains c=true
   ·simp only[hsg,if_true];simp
   ·simp only[hsg,if_false];simp
theorem zn3:∀(n:Nat)(b:Bytes)(f g:Nat),b.length<=n->b.length<f->b.length<g->lex f b=lex g b
 |n,[],f+1,g+1,_,_,_=>rfl
 |0,_::_,_,_,h,_,_=>by simp at h
 |n+1,c::r,f+1,g+1,h,hf,hg=>by
  simp only[qfd]at h hf hg
  by_cases hb:zb4 c=true
  ·rw[lex,lex,if_pos (blank_iff.mpr hb),if_pos (blank_iff.mpr hb)]
   exact zn3 n r f g (by lia) (by lia) (by lia)
  ·have hb':zb4 c=false:=by simpa using hb
   rw[zhx hb',zhx hb']
   cases ht:zba (c::r) with
   |none=>rfl
   |some t=>
    obtain⟨h1,_,_⟩:=zc0 ht
    simp only
    have hl:((c::r).drop t.text.length).length<=r.length:=by simp;lia
    rw[zn3 n _ f g (by lia) (by lia) (by lia)]
theorem zts:zk7 []=some []:=rfl
theorem znb{c:Nat}{r:Bytes}(hb:zb4 c=true):zk7 (c::r)=zk7 r:=by
 unfold zk7
 rw[lex,if_pos (blank_iff.mpr hb)]
 rfl
theorem zea:∀b:Bytes,zk7 (b.dropWhile zb4)=zk7 b
 |[]=>rfl
 |c::r=>by
  rw[qij]
  split
  ·next h=>rw[znb h];exact zea r
  ·rfl
theorem zps{c:Nat}{r:Bytes}(hb:zb4 c=false):zk7 (c::r)=match zba (c::r) with
  |none=>none
  |some t=>(zk7 ((c::r).drop t.text.length)).map λl=>t::l:=by
 unfold zk7
 rw[zhx hb]
 cases ht:zba (c::r) with
 |none=>rfl
 |some t=>
  obtain⟨h1,_,_⟩:=zc0 ht
  simp only
  have hl:((c::r).drop t.text.length).length<=r.length:=by simp;lia
  rw[zn3 r.length _ (c::r).length (((c::r).drop t.text.length).length+1) (by lia) (by simp;lia) (by lia)]
noncomputable def zl2(c:Nat):Bool:=inName c || signs.contains c || zb4 c || c == 46
noncomputable def zcr(c:Nat):Nat:=if zl2 c then c else 63
theorem qaf:signs=[40,41,44,59,61,43,45,42,47,94,60]:=by decide
theorem zzx:words=[[117,110,105,116],[108,101,116],[102,110],[105,102],[116,104,101,110],[101,108,115,101]]:=by decide
theorem insane{c:Nat}(h:zl2 c=false):inName c=false/\signs.contains c=false/\zb4 c=false/\c≠46:=by
 unfold zl2 at h
 simp only[Bool.or_eq_false_iff,beq_eq_false_iff_ne]at h
 exact⟨h.1.1.1,h.1.1.2,h.1.2,h.2⟩
theorem zj1{c:Nat}(h:zl2 c=true):zcr c=c:=by unfold zcr;rw[if_pos h]
theorem zt8{c:Nat}(h:zl2 c=false):zcr c=63:=by unfold zcr;rw[if_neg (by simp[h])]
theorem zeo(p:Nat->Bool)(h63:p 63=false)(hp:∀c,p c=true->zl2 c=true)(c:Nat):p (zcr c)=p c:=by
 cases h:zl2 c with
 |true=>rw[zj1 h]
 |false=>
  rw[zt8 h,h63]
  cases hc:p c with
  |false=>rfl
  |true=>rw[hp c hc]at h;cases h
theorem zck(p:Nat->Bool)(h63:p 63=false)(hp:∀c,p c=true->zl2 c=true):∀b:Bytes,(b.map zcr).takeWhile p=b.takeWhile p
 |[]=>rfl
 |c::r=>by
  rw[qge,qgk,qgk,zeo p h63 hp]
  split
  ·next h=>rw[zj1 (hp c h),zck p h63 hp r]
  ·rfl
theorem zit{c:Nat}(h:digit c=true):zl2 c=true:=by unfold zl2 inName;simp[h]
theorem zlf{c:Nat}(h:inName c=true):zl2 c=true:=by unfold zl2;simp[h]
theorem clean_46{c:Nat}:zcr c=46↔c=46:=by
 cases h:zl2 c with
 |true=>rw[zj1 h]
 |false=>rw[zt8 h];exact⟨λz=>by lia,λz=>absurd z (insane h).2.2.2⟩
theorem zl8(b:Bytes):numberAt (b.map zcr)=(numberAt b).map λp=>(p.1,p.2.map zcr):=by
 unfold numberAt
 simp only
 rw[zck digit (by decide) λc=>zit]
 rw[<-qiq]
 cases h:b.drop (b.takeWhile digit).length with
 |nil=>simp
 |cons c q=>
  rw[qge]
  by_cases hc:c=46
  ·subst hc
   have e:zcr 46=46:=by decide
   rw[e]
   simp only
   rw[zck digit (by decide) λc=>zit]
   split
   ·rfl
   ·simp
  ·have hc':zcr c≠46:=λz=>hc (clean_46.mp z)
   split
   ·next heq=>injection heq with h1 h2;exact absurd h1 hc'
   ·split
    ·next heq=>injection heq with h1 h2;exact absurd h1 hc
    ·simp
theorem znk(b:Bytes):zba (b.map zcr)=zba b:=by
 cases b with
 |nil=>rfl
 |cons c r=>
  have e1:small (zcr c)=small c:=zeo small (by decide) (λc h=>zlf (zfc h)) c
  have e2:digit (zcr c)=digit c:=zeo digit (by decide) (λc=>zit) c
  have e3:signs.contains (zcr c)=signs.contains c:=zeo (λc=>signs.contains c) (by decide) (λc h=>by unfold zl2;simp only[h];simp) c
  have e4:=zck inName (by decide) (λc=>zlf) (c::r)
  have e5:=zl8 (c::r)
  rw[qge]at e4 e5 ⊢
  simp only[zba]
  rw[e1,e2,e3,e4,e5]
  split
  ·rfl
  ·split
   ·cases numberAt (c::r) <;> rfl
   ·split
    ·next h=>
     have:zl2 c=true:=by unfold zl2;simp only[h];simp
     rw[zj1 this]
    ·rfl
theorem zk5:∀(f:Nat)(b:Bytes),lex f (b.map zcr)=lex f b
 |0,_=>rfl
 |f+1,[]=>rfl
 |f+1,c::r=>by
  have eb:zb4 (zcr c)=zb4 c:=zeo zb4 (by decide) (λc h=>by unfold zl2;simp[h]) c
  by_cases hb:zb4 c=true
  ·rw[qge,lex,lex,if_pos (blank_iff.mpr (eb.trans hb)),if_pos (blank_iff.mpr hb)]
   exact zk5 f r
  ·have hb':zb4 c=false:=by simpa using hb
   have e:=znk (c::r)
   rw[qge]at e ⊢
   rw[zhx (eb.trans hb'),zhx hb',e]
   cases zba (c::r) with
   |none=>rfl
   |some t=>
    simp only
    rw[<-qge,<-qiq,zk5 f]
theorem zi5(b:Bytes):tokens b=zk7 (b.map zcr):=by
 unfold tokens zk7
 rw[qe9,zk5]
noncomputable def ziy(t:Tok):Prop:=t.kind=0/\words.contains t.text=false/\1<=t.text.length\/t.kind=1/\(∃c∈t.text.head?,digit c=true)\/t.kind=2/\(words.contains t.text=true\/∃c,signs.contains c=true/\t.text=[c])
theorem zuk{b:Bytes}{t:Tok}(h:zba b=some t):ziy t:=by
 have ht:=zc0 h
 cases b with
 |nil=>simp[zba]at h
 |cons c r=>
  simp only[zba]at h
  split at h
  ·split at h
   ·cases h
   ·simp only[qfl.injEq]at h
    subst h
    unfold zj3 ziy
    cases hw:words.contains ((c::r).takeWhile inName) with
    |true=>right;right;exact⟨rfl,.inl rfl⟩
    |false=>left;exact⟨rfl,rfl,ht.1⟩
  ·split at h
   ·next hd=>
    cases hn:numberAt (c::r) with
    |none=>rw[hn]at h;cases h
    |some p=>
     obtain⟨w,q⟩:=p
     rw[hn]at h
     simp only at h
     split at h
     ·cases h
     ·cases h
      right;left
      refine⟨rfl,c,?_,hd⟩
      have h1:=ht.1
      have h2:=ht.2.1
      simp only at h1 h2
      rw[h2]
      cases hw:w.length with
      |zero=>lia
      |succ n=>simp
   ·split at h
    ·next hs=>cases h;right;right;exact⟨rfl,.inr ⟨c,hs,rfl⟩⟩
    ·cases h
open Kp169 (Bytes Tok E Es Item small digit inName words signs numberAt digits isTok eat nameAt opOf power number bytesOf pExpr pSum pSumRest pTerm pTermRest pPower pFactor pArgs pMore pNames pItem pItems sheetOf DEEP)
theorem zem{w:String}{ts:List Tok}(h:isTok w ts=true):(ts.drop 1).length+1=ts.length:=by
 cases ts with
 |nil=>simp[isTok]at h
 |cons t r=>simp
theorem zap{w:String}{ts r:List Tok}(h:eat w ts=some r):r.length+1=ts.length:=by
 unfold eat at h
 split at h
 ·next hi=>cases h;exact zem hi
 ·cases h
theorem zhq{ts r:List Tok}{k:Nat}(h:power ts=some (k,r)):r.length+1=ts.length:=by
 cases ts with
 |nil=>simp[power]at h
 |cons t q=>
  simp only[power]at h
  split at h
  ·simp only[qfl.injEq,Prod.mk.injEq]at h
   rw[<-h.2];simp
  ·cases h
theorem zjv{l:List (String×Nat)}{ts:List Tok}{o:Nat}(h:opOf l ts=some o):(ts.drop 1).length+1=ts.length:=by
 unfold opOf at h
 cases hf:l.find? λx=>isTok x.1 ts with
 |none=>rw[hf]at h;cases h
 |some x=>
  have h2:isTok x.1 ts=true:=by have:=List.find?_some hf;simpa using this
  exact zem h2
structure Shr(f:Nat):Prop where
 expr:∀d ts e r,pExpr f d ts=some (e,r)->r.length<ts.length
 sum:∀d ts e r,pSum f d ts=some (e,r)->r.length<ts.length
 sumR:∀d a ts e r,pSumRest f d a ts=some (e,r)->r.length<=ts.length
 term:∀d ts e r,pTerm f d ts=some (e,r)->r.length<ts.length
 termR:∀d a ts e r,pTermRest f d a ts=some (e,r)->r.length<=ts.length
 power:∀d ts e r,pPower f d ts=some (e,r)->r.length<ts.length
 factor:∀d ts e r,pFactor f d ts=some (e,r)->r.length<ts.length
 args:∀d ts e r,pArgs f d ts=some (e,r)->r.length<ts.length
 more:∀d ts e r,pMore f d ts=some (e,r)->r.length<ts.length
theorem shr:∀f,Shr f
 |0=>⟨λ_ _ _ _ h=>by simp[pExpr]at h,λ_ _ _ _ h=>by simp[pSum]at h,λ_ _ _ _ _ h=>by simp[pSumRest]at h,λ_ _ _ _ h=>by simp[pTerm]at h,λ_ _ _ _ _ h=>by simp[pTermRest]at h,
   λ_ _ _ _ h=>by simp[pPower]at h,λ_ _ _ _ h=>by simp[pFactor]at h,λ_ _ _ _ h=>by simp[pArgs]at h,λ_ _ _ _ h=>by simp[pMore]at h⟩
 |f+1=>by
  have ih:=shr f
  refine⟨λd ts e r h=>?_,λd ts e r h=>?_,λd a ts e r h=>?_,λd ts e r h=>?_,λd a ts e r h=>?_,λd ts e r h=>?_,λd ts e r h=>?_,λd ts e r h=>?_,λd ts e r h=>?_⟩
  ·simp only[pExpr]at h
   split at h
   ·cases h
   ·split at h
    ·next hif=>
     have h0:=zem hif
     simp only[bind,qfi,pure,qfl.injEq,Prod.mk.injEq]at h
     obtain⟨a,ha,q,hq,b,hb,t,ht,x,hx,u,hu,y,hy,_,rfl⟩:=h
     have:=ih.sum _ _ _ _ ha;have:=zap hq;have:=ih.sum _ _ _ _ hb;have:=zap ht;have:=ih.expr _ _ _ _ hx;have:=zap hu;have:=ih.expr _ _ _ _ hy
     lia
    ·exact ih.sum _ _ _ _ h
  ·simp only[pSum,bind,qfi]at h
   obtain⟨a,ha,h⟩:=h
   have:=ih.term _ _ _ _ ha;have:=ih.sumR _ _ _ _ _ h
   lia
  ·simp only[pSumRest]at h
   split at h
   ·next op ho=>
    simp only[bind,qfi]at h
    obtain⟨b,hb,h⟩:=h
    have:=zjv ho;have:=ih.term _ _ _ _ hb;have:=ih.sumR _ _ _ _ _ h
    lia
   ·simp only[qfl.injEq,Prod.mk.injEq]at h;rw[<-h.2];exact qfh _
  ·simp only[pTerm,bind,qfi]at h
   obtain⟨a,ha,h⟩:=h
   have:=ih.power _ _ _ _ ha;have:=ih.termR _ _ _ _ _ h
   lia
  ·simp only[pTermRest]at h
   split at h
   ·next op ho=>
    simp only[bind,qfi]at h
    obtain⟨b,hb,h⟩:=h
    have:=zjv ho;have:=ih.power _ _ _ _ hb;have:=ih.termR _ _ _ _ _ h
    lia
   ·simp only[qfl.injEq,Prod.mk.injEq]at h;rw[<-h.2];exact qfh _
  ·simp only[pPower,bind,qfi]at h
   obtain⟨a,ha,h⟩:=h
   have h1:=ih.factor _ _ _ _ ha
   split at h
   ·simp only[pure,qfl.injEq]at h;rw[h]at h1;exact h1
   ·next q hq=>
    have h2:=zap hq
    split at h
    ·next z hz=>
     have h3:=zap hz
     simp only[bind,qfi,pure,qfl.injEq,Prod.mk.injEq]at h
     obtain⟨k,hk,_,rfl⟩:=h
     have:=zhq hk
     lia
    ·simp only[bind,qfi,pure,qfl.injEq,Prod.mk.injEq]at h
     obtain⟨k,hk,_,rfl⟩:=h
     have:=zhq hk
     lia
  ·cases ts with
   |nil=>simp[pFactor]at h
   |cons t q=>
    simp only[pFactor]at h
    split at h
    ·simp only[qfl.injEq,Prod.mk.injEq]at h;rw[<-h.2];simp
    ·split at h
     ·split at h
      ·next hp=>
       have h0:=zem hp
       simp only[bind,qfi,pure,qfl.injEq,Prod.mk.injEq]at h
       obtain⟨l,hl,_,rfl⟩:=h
       have:=ih.args _ _ _ _ hl
       simp only[qfd];lia
      ·simp only[qfl.injEq,Prod.mk.injEq]at h;rw[<-h.2];simp
     ·split at h
      ·split at h
       ·cases h
       ·simp only[bind,qfi,pure,qfl.injEq,Prod.mk.injEq]at h
        obtain⟨l,hl,_,rfl⟩:=h
        have:=ih.factor _ _ _ _ hl
        simp only[qfd];lia
      ·simp only[bind,qfi,pure,qfl.injEq,Prod.mk.injEq]at h
       obtain⟨q',hq,l,hl,z,hz,_,rfl⟩:=h
       have:=zap hq;have:=ih.expr _ _ _ _ hl;have:=zap hz
       lia
  ·simp only[pArgs]at h
   split at h
   ·next z hz=>
    simp only[qfl.injEq,Prod.mk.injEq]at h
    have:=zap hz
    rw[<-h.2];lia
   ·exact ih.more _ _ _ _ h
  ·simp only[pMore,bind,qfi]at h
   obtain⟨a,ha,h⟩:=h
   have h1:=ih.expr _ _ _ _ ha
   split at h
   ·next z hz=>
    simp only[pure,qfl.injEq,Prod.mk.injEq]at h
    have:=zap hz
    rw[<-h.2];lia
   ·simp only[bind,qfi,pure,qfl.injEq,Prod.mk.injEq]at h
    obtain⟨c,hc,l,hl,_,rfl⟩:=h
    have:=zap hc;have:=ih.more _ _ _ _ hl
    lia
noncomputable def zqk:Bytes:=[110,97,109,101]
noncomputable def zc9:Bytes:=[110,117,109,98,101,114]
noncomputable def qcm:Bytes:=[101,110,100]
noncomputable def zkc(t:Tok):Bytes:=if t.kind=0 then zqk else if t.kind=1 then zc9 else t.text
noncomputable def zb2:List Tok->Bytes
 |[]=>qcm
 |t::_=>zkc t
noncomputable def zzi(w:Bytes):Prop:=w≠zqk/\w≠zc9/\w≠qcm
theorem zra{w:Bytes}(h:words.contains w=true):zzi w:=by
 rw[zzx]at h
 have h:w∈[[117,110,105,116],[108,101,116],[102,110],[105,102],[116,104,101,110],[101,108,115,101]]:=by simpa using h
 simp only[qfo,qha,or_false]at h
 rcases h with rfl|rfl|rfl|rfl|rfl|rfl <;> exact⟨by decide,by decide,by decide⟩
theorem zuu(c:Nat):zzi [c]:=⟨by simp[zqk],by simp[zc9],by simp[qcm]⟩
theorem zf0{t:Tok}(h:ziy t)(hk:t.kind=2):zzi t.text:=by
 rcases h with h|h|h
 ·lia
 ·lia
 ·rcases h.2 with h|⟨c,_,h⟩
  ·exact zra h
  ·rw[h];exact zuu c
theorem zeb{t:Tok}(h:ziy t):t.kind=0\/t.kind=1\/t.kind=2:=by
 rcases h with h|h|h <;> lia
theorem zpx{w:String}{ts:List Tok}(hts:∀t∈ts,ziy t)(hw:zzi (bytesOf w)):isTok w ts=true↔zb2 ts=bytesOf w:=by
 cases ts with
 |nil=>exact⟨λh=>by simp[isTok]at h,λh=>absurd h.symm hw.2.2⟩
 |cons t r=>
  have ht:=hts t (by simp)
  simp only[isTok,zb2,zkc,qft,beq_iff_eq]
  rcases zeb ht with hk|hk|hk
  ·simp only[hk,if_true]
   exact⟨λh=>by lia,λh=>absurd h.symm hw.1⟩
  ·simp only[hk,if_true,show ¬(1=0) by decide,if_false]
   exact⟨λh=>by lia,λh=>absurd h.symm hw.2.1⟩
  ·simp only[hk,show ¬(2=0) by decide,show ¬(2=1) by decide,if_false,true_and]
theorem zu3{ts:List Tok}(hts:∀t∈ts,ziy t):(∃x,nameAt ts=some x)↔zb2 ts=zqk:=by
 cases ts with
 |nil=>exact⟨λ⟨x,h⟩=>by simp[nameAt]at h,λh=>by exact absurd h (by decide)⟩
 |cons t r=>
  have ht:=hts t (by simp)
  simp only[nameAt,zb2,zkc]
  rcases zeb ht with hk|hk|hk
  ·simp[hk]
  ·simp only[hk,if_true,show ¬(1=0) by decide,if_false]
   exact⟨λh=>(by obtain⟨x,h⟩:=h;cases h),λh=>absurd h (by decide)⟩
  ·simp only[hk,show ¬(2=0) by decide,show ¬(2=1) by decide,if_false]
   exact⟨λh=>(by obtain⟨x,h⟩:=h;cases h),λh=>absurd h (zf0 ht hk).1⟩
theorem zep{t:Tok}{r:List Tok}(ht:ziy t):zb2 (t::r)=zc9↔t.kind=1:=by
 simp only[zb2,zkc]
 rcases zeb ht with hk|hk|hk
 ·simp only[hk,if_true];exact⟨λh=>absurd h (by decide),λh=>by first|lia|(exfalso;revert h;rw[hk];decide)|(exfalso;exact absurd h (by decide))⟩
 ·simp only[hk,if_true,show ¬(1=0) by decide,if_false]
 ·simp only[hk,show ¬(2=0) by decide,show ¬(2=1) by decide,if_false]
  exact⟨λh=>absurd h (zf0 ht hk).2.1,λh=>by first|lia|(exfalso;revert h;rw[hk];decide)|(exfalso;exact absurd h (by decide))⟩
theorem zvu{t:Tok}{r:List Tok}(ht:ziy t):zb2 (t::r)=zqk↔t.kind=0:=by
 simp only[zb2,zkc]
 rcases zeb ht with hk|hk|hk
 ·simp only[hk,if_true]
 ·simp only[hk,if_true,show ¬(1=0) by decide,if_false];exact⟨λh=>absurd h (by decide),λh=>by first|lia|(exfalso;revert h;rw[hk];decide)|(exfalso;exact absurd h (by decide))⟩
 ·simp only[hk,show ¬(2=0) by decide,show ¬(2=1) by decide,if_false]
  exact⟨λh=>absurd h (zf0 ht hk).1,λh=>by first|lia|(exfalso;revert h;rw[hk];decide)|(exfalso;exact absurd h (by decide))⟩
theorem zzh{t:Tok}{r:List Tok}(ht:ziy t):zb2 (t::r)≠qcm:=by
 simp only[zb2,zkc]
 rcases zeb ht with hk|hk|hk
 ·simp only[hk,if_true];decide
 ·simp only[hk,if_true,show ¬(1=0) by decide,if_false];decide
 ·simp only[hk,show ¬(2=0) by decide,show ¬(2=1) by decide,if_false];exact (zf0 ht hk).2.2
theorem zp3:∀(l:List Nat)(v:Nat),(∀c∈l,48<=c)->(l.foldl (λv c=>10*v+(c - 48)) v=0↔v=0/\∀c∈l,c=48)
 |[],v,_=>by simp
 |c::l,v,h=>by
  rw[qg5,zp3 l _ λx hx=>h x (by simp[hx])]
  have:=h c (by simp)
  constructor
  ·rintro ⟨h1,h2⟩
   refine⟨by lia,λx hx=>?_⟩
   rcases qfo.mp hx with rfl|hx
   ·lia
   ·exact h2 x hx
  ·rintro ⟨h1,h2⟩
   have:=h2 c (by simp)
   exact⟨by lia,λx hx=>h2 x (by simp[hx])⟩
theorem zri(w:Bytes):(number w).1=0↔∀c∈w,digit c=true->c=48:=by
 unfold number
 rw[zp3 _ _ λc hc=>by
  have:=(qg9.mp hc).2
  unfold digit at this
  simp only[qft,decide_eq_true_eq]at this
  exact this.1]
 exact⟨λh c hc hd=>h.2 c (qg9.mpr ⟨hc,hd⟩),λh=>⟨rfl,λc hc=>h c (qg9.mp hc).1 (qg9.mp hc).2⟩⟩
theorem zrs{k:Nat}{s:St}{v:Int}(h:more k s=.error v):v≠0:=by rw[qbf h];decide
theorem zr0{r:Row}{v:Int}(h:held r=.error v):v≠0:=by
 unfold held at h
 split at h
 ·cases h
 ·cases h;decide
mutual
theorem zcy(known:Known)(ps:List Bytes):∀(e:E)(s:St)(v:Int),kindE known ps e s=.error v->v≠0
 |.num n t,s,v,h=>by
  simp only[kindE]at h
  split at h
  ·simp only[bind,Except.bind,pure,Except.pure]at h
   cases hm:more 1 s with
   |error u=>rw[hm]at h;cases h;exact zrs hm
   |ok q=>rw[hm]at h;cases h
  ·cases h
 |.var x,s,v,h=>by
  simp only[kindE]at h
  split at h
  ·cases h
  ·split at h
   ·next q _=>
    simp only[bind,Except.bind,pure,Except.pure]at h
    cases hm:more q.2.places s with
    |error u=>rw[hm]at h;cases h;exact zrs hm
    |ok q=>rw[hm]at h;cases h
   ·cases h;decide
 |.call f l,s,v,h=>by
  simp only[kindE,bind,Except.bind,pure,Except.pure]at h
  cases ha:kindEs known ps l s with
  |error u=>rw[ha]at h;cases h;exact zpt known ps l s _ ha
  |ok a=>
   rw[ha]at h
   simp only at h
   split at h
   ·next q _=>
    cases hm:more q.2.places a.2 with
    |error u=>rw[hm]at h;cases h;exact zrs hm
    |ok q=>rw[hm]at h;cases h
   ·cases h;decide
 |.neg e,s,v,h=>by
  simp only[kindE]at h
  exact zcy known ps e s v h
 |.bin op a b,s,v,h=>by
  simp only[kindE,bind,Except.bind,pure,Except.pure]at h
  cases ha:kindE known ps a s with
  |error u=>rw[ha]at h;cases h;exact zcy known ps a s _ ha
  |ok x=>
   rw[ha]at h
   simp only at h
   cases hb:kindE known ps b x.2 with
   |error u=>rw[hb]at h;cases h;exact zcy known ps b _ _ hb
   |ok y=>
    rw[hb]at h
    simp only at h
    split at h
    ·cases hm:held (mul x.1 y.1) with
     |error u=>rw[hm]at h;cases h;exact zr0 hm
     |ok q=>rw[hm]at h;cases h
    ·split at h
     ·cases hm:held (mul x.1 (pow (-1) y.1)) with
      |error u=>rw[hm]at h;cases h;exact zr0 hm
      |ok q=>rw[hm]at h;cases h
     ·cases h
 |.pow e k,s,v,h=>by
  simp only[kindE,bind,Except.bind,pure,Except.pure]at h
  cases ha:kindE known ps e s with
  |error u=>rw[ha]at h;cases h;exact zcy known ps e s _ ha
  |ok x=>
   rw[ha]at h
   simp only at h
   cases hm:held (pow k x.1) with
   |error u=>rw[hm]at h;cases h;exact zr0 hm
   |ok q=>rw[hm]at h;cases h
 |.ite a b x y,s,v,h=>by
  simp only[kindE,bind,Except.bind,pure,Except.pure]at h
  cases ha:kindE known ps a s with
  |error u=>rw[ha]at h;cases h;exact zcy known ps a s _ ha
  |ok p=>
   rw[ha]at h
   simp only at h
   cases hb:kindE known ps b p.2 with
   |error u=>rw[hb]at h;cases h;exact zcy known ps b _ _ hb
   |ok q=>
    rw[hb]at h
    simp only at h
    cases hx:kindE known ps x (alike p.1 q.1 q.2) with
    |error u=>rw[hx]at h;cases h;exact zcy known ps x _ _ hx
    |ok u=>
     rw[hx]at h
     simp only at h
     cases hy:kindE known ps y u.2 with
     |error u=>rw[hy]at h;cases h;exact zcy known ps y _ _ hy
     |ok w=>rw[hy]at h;cases h
theorem zpt(known:Known)(ps:List Bytes):∀(l:Es)(s:St)(v:Int),kindEs known ps l s=.error v->v≠0
 |.nil,s,v,h=>by simp[kindEs]at h
 |.cons e l,s,v,h=>by
  simp only[kindEs,bind,Except.bind,pure,Except.pure]at h
  cases ha:kindE known ps e s with
  |error u=>rw[ha]at h;cases h;exact zcy known ps e s _ ha
  |ok x=>
   rw[ha]at h
   simp only at h
   cases hb:kindEs known ps l x.2 with
   |error u=>rw[hb]at h;cases h;exact zpt known ps l _ _ hb
   |ok y=>rw[hb]at h;cases h
end
noncomputable def zvw(known:Known)(ps:List Bytes)(l:List Sx):Prop:=match zjx known ps l (zec ps.length) with
 |.error v=>v≠0
 |.ok m=>∃r,m.st=[r]
theorem qb7{known:Known}{ps:List Bytes}{e:E}(hu:∀u∈e.uses,zqp known ps u):zvw known ps (za7 e):=by
 unfold zvw zec
 have hrun:=zco known ps e [] ⟨ps.length,[]⟩ [] hu
 rw[qgb]at hrun
 rw[hrun]
 cases hq:kindE known ps e ⟨ps.length,[]⟩ with
 |error v=>exact zcy known ps e _ v hq
 |ok q=>exact⟨q.1,rfl⟩
theorem zu5{known:Known}{ps:List Bytes}(hk:∀q∈known,q.2.of.length<=6){x:Sx}{m m':MS}(h:zbd known ps x m=.ok m'):m'.s.eqs.length<=m.s.eqs.length+6/\m'.st.length<=m.st.length+1:=by
 have hm:∀{k:Nat}{s:St}{q:Nat×St},more k s=.ok q->q.2.eqs=s.eqs:=λh=>(zgy h).2.2.1
 have p2:∀{k:List Row->Row->Row->MR},zut m k=.ok m'->∃r x y,m.st=r++[x]++[y]/\k r x y=.ok m':=λ{k} h=>by
  unfold zut at h
  split at h
  ·next y x r e=>exact⟨r.reverse,x,y,rev2 e,h⟩
  ·cases h
 cases x with
 |zero=>
  simp only[zbd]at h
  cases hq:more 1 m.s with
  |error v=>rw[hq]at h;cases h
  |ok q=>rw[hq]at h;cases h;simp[hm hq]
 |number=>simp only[zbd]at h;cases h;simp
 |name y=>
  simp only[zbd]at h
  split at h
  ·cases h;simp
  ·split at h
   ·next q _=>
    cases hq:more q.2.places m.s with
    |error v=>rw[hq]at h;cases h
    |ok q=>rw[hq]at h;cases h;simp[hm hq]
   ·cases h
 |call f n=>
  simp only[zbd]at h
  split at h
  ·next q hf=>
   split at h
   ·cases h
   ·cases hq:more q.2.places m.s with
    |error v=>rw[hq]at h;cases h
    |ok z=>
     rw[hq]at h;cases h
     have:=hk q (qhe hf)
     simp only[zf8,hm hq,qfb,qkg,qfx,qj7]
     lia
  ·cases h
 |pw k=>
  simp only[zbd]at h
  split at h
  ·next x r e=>
   split at h
   ·cases h
    have:=congrArg qh1 e
    simp only[List.length_reverse,qfd]at this
    simp;lia
   ·cases h
  ·cases h
 |times=>
  simp only[zbd]at h
  obtain⟨r,x,y,e,h⟩:=p2 h
  split at h
  ·cases h;rw[e];simp
  ·cases h
 |over=>
  simp only[zbd]at h
  obtain⟨r,x,y,e,h⟩:=p2 h
  split at h
  ·cases h;rw[e];simp
  ·cases h
 |alike=>
  simp only[zbd]at h
  obtain⟨r,x,y,e,h⟩:=p2 h
  cases h;rw[e];simp[alike]
 |compare=>
  simp only[zbd]at h
  obtain⟨r,x,y,e,h⟩:=p2 h
  cases h;rw[e];simp[alike];lia
theorem zgn:∀{l:List Bytes},distinct l=true->l.Nodup
 |[],_=>qjh
 |x::l,h=>by
  simp only[distinct,qft,qjm]at h
  refine qhw.mpr ⟨λz=>?_,zgn h.2⟩
  have:l.contains x=true:=by simpa using z
  rw[this]at h;exact absurd h.1 (by simp)
theorem zq9{before:List Item}{i:Item}(hd:zl3 before)(h:rightItem before i=true):(params i).Nodup:=by
 rw[zd3 hd]at h
 unfold zjb at h
 rw[zro]at h
 simp only[qft]at h
 exact zgn h.1.2.1.1
theorem zwv{before:List Item}{known:Known}{i:Item}(hd:zl3 before)(hk:KO before known)(h:rightItem before i=true)(hu:zd7 i=false):zvw known (params i) (zb0 i):=by
 unfold rightItem at h
 cases i with
 |unit x=>cases hu
 |let_ x e=>
  simp only[qft,qfm]at h
  exact qb7 λw hw=>zjs hd hk (h.2 w hw)
 |fn x ps e=>
  simp only[qft,qfm]at h
  exact qb7 λw hw=>zjs hd hk (h.2.2 w hw)
theorem zww{before:List Item}{i:Item}(hd:zl3 before)(h:rightItem before i=true):zl3 (before++[i]):=zgp hd ((zd3 hd i).symm.trans h)
theorem zt5{before:List Item}{i:Item}(hd:zl3 (before++[i])):before.find? (λj=>j.name == i.name)=none:=by
 rw[List.find?_eq_none]
 intro j hj z
 unfold zl3 at hd
 rw[qfg,qjl]at hd
 exact hd.2.2 j.name (qf0.mpr ⟨j,hj,rfl⟩) i.name (by simp) (by simpa using z)
theorem zyg{before:List Item}{known:Known}{i:Item}(hk:KO before known)(hd:zl3 (before++[i])):(known.find? λq=>q.1 == i.name)=none:=by
 have:=hk.find i.name
 rw[zt5 hd]at this
 exact this
theorem KO.names{b:List Item}{k:Known}(h:KO b k):k.map (·.1)=b.map Item.name:=by
 induction h with
 |nil=>rfl
 |cons _ _ _ ih=>simp[ih]
theorem KO.le{b:List Item}{k:Known}(h:KO b k)(hp:∀i∈b,(params i).length<=6):∀q∈k,q.2.of.length<=6:=by
 induction h with
 |nil=>intro q hq;simp at hq
 |cons a c _ ih=>
  intro q hq
  rcases qfo.mp hq with rfl|hq
  ·rw[c];exact hp _ (by simp)
  ·exact ih (λi hi=>hp i (by simp[hi])) q hq
theorem qev{k:Known}(hd:(k.map (·.1)).Nodup){j:Nat}{q:Bytes×Kind}(h:k[j]?=some q):(k.find? λp=>p.1 == q.1)=some q:=by
 induction k generalizing j with
 |nil=>simp at h
 |cons p k ih=>
  rw[qge,qhw]at hd
  cases j with
  |zero=>simp at h;subst h;simp
  |succ j=>
   have hj:k[j]?=some q:=by simpa using h
   rw[qgs]
   have hne:¬p.1=q.1:=λz=>hd.1 (by rw[z];exact qf0.mpr ⟨q,qfw hj,rfl⟩)
   have hb:(p.1 == q.1)=false:=by simpa using hne
   rw[hb]
   exact ih hd.2 hj
structure zlr(t:Tok):Prop where
 ok:ziy t
 num:t.kind=1->∀c∈t.text,digit c=true\/c=46
 len:t.text.length<=100000
theorem zdi(p:Nat->Bool):∀(l:List Nat),∀c∈l.takeWhile p,p c=true
 |[],c,h=>by simp at h
 |x::l,c,h=>by
  rw[qgk]at h
  split at h
  ·next hp=>
   rcases qfo.mp h with rfl|h
   ·exact hp
   ·exact zdi p l c h
  ·simp at h
theorem zl9{b w q:Bytes}(h:numberAt b=some (w,q)):∀c∈w,digit c=true\/c=46:=by
 unfold numberAt at h
 simp only at h
 split at h
 ·split at h
  ·cases h
  ·simp only[qfl.injEq,Prod.mk.injEq]at h
   rw[<-h.1]
   intro c hc
   rcases qfj.mp hc with hc|hc
   ·exact .inl (zdi digit _ c hc)
   ·rcases qfo.mp hc with rfl|hc
    ·exact .inr rfl
    ·exact .inl (zdi digit _ c hc)
 ·simp only[qfl.injEq,Prod.mk.injEq]at h
  rw[<-h.1]
  intro c hc
  exact .inl (zdi digit _ c hc)
theorem zq1{b:Bytes}{t:Tok}(h:zba b=some t)(hk:t.kind=1):∀c∈t.text,digit c=true\/c=46:=by
 cases b with
 |nil=>simp[zba]at h
 |cons c r=>
  simp only[zba]at h
  split at h
  ·split at h
   ·cases h
   ·simp only[qfl.injEq]at h
    subst h
    unfold zj3 at hk
    simp only at hk
    split at hk <;> lia
  ·split at h
   ·cases hn:numberAt (c::r) with
    |none=>rw[hn]at h;cases h
    |some p=>
     obtain⟨w,q⟩:=p
     rw[hn]at h
     simp only at h
     split at h
     ·cases h
     ·cases h;exact zl9 hn
   ·split at h
    ·cases h;simp at hk
    ·cases h
theorem zk6:∀(n:Nat)(b:Bytes)(ts:List Tok),b.length<=n->b.length<=100000->zk7 b=some ts->∀t∈ts,zlr t
 |n,[],ts,_,_,h,t,ht=>by
  rw[zts]at h;cases h;simp at ht
 |0,_::_,_,h,_,_,_,_=>by simp at h
 |n+1,c::r,ts,hn,hl,h,t,ht=>by
  simp only[qfd]at hn hl
  by_cases hb:zb4 c=true
  ·rw[znb hb]at h
   exact zk6 n r ts (by lia) (by lia) h t ht
  ·have hb':zb4 c=false:=by simpa using hb
   rw[zps hb']at h
   cases hk:zba (c::r) with
   |none=>rw[hk]at h;cases h
   |some u=>
    rw[hk]at h
    dsimp only at h
    obtain⟨h1,h2,h3⟩:=zc0 hk
    simp only[qfd]at h3
    cases hr:zk7 ((c::r).drop u.text.length) with
    |none=>rw[hr]at h;cases h
    |some l=>
     rw[hr]at h
     simp only[qfy,qfl.injEq]at h
     subst h
     rcases qfo.mp ht with rfl|ht
     ·exact⟨zuk hk,zq1 hk,by lia⟩
     ·refine zk6 n _ l ?_ ?_ hr t ht <;> (simp;lia)
noncomputable def Bnd:Sx->Prop
 |.call _ n=>n<1000000
 |.pw k=>-1000<k/\k<1000
 |_=>True
structure Fi(l:List Sx)(ts r:List Tok):Prop where
 len:l.length+r.length<=ts.length
 sub:∀t∈r,t∈ts
 bnd:∀x∈l,Bnd x
structure Fj(a l:List Sx)(ts r:List Tok):Prop where
 len:l.length+r.length<=a.length+ts.length
 sub:∀t∈r,t∈ts
 bnd:(∀x∈a,Bnd x)->∀x∈l,Bnd x
noncomputable def In1(ts:List Tok):Prop:=(∀t∈ts,zlr t)/\ts.length<=10000
theorem In1.of{ts r:List Tok}(h:In1 ts)(hs:∀t∈r,t∈ts)(hl:r.length<=ts.length):In1 r:=⟨λt ht=>h.1 t (hs t ht),by have:=h.2;lia⟩
theorem In1.drop1{ts:List Tok}(h:In1 ts)(n:Nat):In1 (ts.drop n):=h.of (λt ht=>qfv ht) (by simp)
theorem zyy{w:String}{ts r:List Tok}(h:eat w ts=some r):r=ts.drop 1:=by
 unfold eat at h
 split at h
 ·cases h;rfl
 ·cases h
theorem za1{w:String}{ts r:List Tok}(h:eat w ts=some r):∀t∈r,t∈ts:=λt ht=>by rw[zyy h]at ht;exact qfv ht
theorem zm1{ts r:List Tok}{k:Nat}(hi:In1 ts)(h:power ts=some (k,r)):k<=9/\(∀t∈r,t∈ts):=by
 cases ts with
 |nil=>simp[power]at h
 |cons t q=>
  simp only[power]at h
  split at h
  ·next hc=>
   simp only[qfl.injEq,Prod.mk.injEq]at h
   obtain⟨h1,h2⟩:=h
   refine⟨?_,λu hu=>by rw[<-h2]at hu;simp[hu]⟩
   have hf:=(hi.1 t (by simp)).num hc.1
   cases ht:t.text with
   |nil=>rw[ht]at hc;simp at hc
   |cons c l=>
    rw[ht]at h1 hf
    simp only[List.headD_cons]at h1
    have:=hf c (by simp)
    unfold digit at this
    simp only[qft,decide_eq_true_eq]at this
    lia
  ·cases h
structure Gd(f:Nat):Prop where
 expr:∀d ts e r,In1 ts->pExpr f d ts=some (e,r)->Fi (za7 e) ts r
 sum:∀d ts e r,In1 ts->pSum f d ts=some (e,r)->Fi (za7 e) ts r
 sumR:∀d a ts e r,In1 ts->pSumRest f d a ts=some (e,r)->Fj (za7 a) (za7 e) ts r
 term:∀d ts e r,In1 ts->pTerm f d ts=some (e,r)->Fi (za7 e) ts r
 termR:∀d a ts e r,In1 ts->pTermRest f d a ts=some (e,r)->Fj (za7 a) (za7 e) ts r
 power:∀d ts e r,In1 ts->pPower f d ts=some (e,r)->Fi (za7 e) ts r
 factor:∀d ts e r,In1 ts->pFactor f d ts=some (e,r)->Fi (za7 e) ts r
 args:∀d ts l r,In1 ts->pArgs f d ts=some (l,r)->Fi (zdx l) ts r/\l.list.length+r.length<=ts.length
 more:∀d ts l r,In1 ts->pMore f d ts=some (l,r)->Fi (zdx l) ts r/\l.list.length+r.length<=ts.length
theorem qcl(op:Nat):Bnd (if op=42 then .times else if op=47 then .over else .alike):=by split <;> (try split) <;> trivial
theorem gd:∀f,Gd f
 |0=>⟨λ_ _ _ _ _ h=>by simp[pExpr]at h,λ_ _ _ _ _ h=>by simp[pSum]at h,λ_ _ _ _ _ _ h=>by simp[pSumRest]at h,λ_ _ _ _ _ h=>by simp[pTerm]at h,λ_ _ _ _ _ _ h=>by simp[pTermRest]at h,
   λ_ _ _ _ _ h=>by simp[pPower]at h,λ_ _ _ _ _ h=>by simp[pFactor]at h,λ_ _ _ _ _ h=>by simp[pArgs]at h,λ_ _ _ _ _ h=>by simp[pMore]at h⟩
 |f+1=>by
  have ih:=gd f
  refine⟨λd ts e r hi h=>?_,λd ts e r hi h=>?_,λd a ts e r hi h=>?_,λd ts e r hi h=>?_,λd a ts e r hi h=>?_,λd ts e r hi h=>?_,λd ts e r hi h=>?_,λd ts e r hi h=>?_,λd ts e r hi h=>?_⟩
  ·simp only[pExpr]at h
   split at h
   ·cases h
   ·split at h
    ·next hif=>
     have h0:=zem hif
     simp only[bind,qfi,pure,qfl.injEq,Prod.mk.injEq]at h
     obtain⟨a,ha,q,hq,b,hb,t,ht,x,hx,u,hu,y,hy,rfl,rfl⟩:=h
     have i1:=hi.drop1 1
     have g1:=ih.sum _ _ _ _ i1 ha
     have l1:=zap hq
     have iq:In1 q:=i1.of (λt h=>g1.sub t (za1 hq t h)) (by have:=g1.len;lia)
     have g2:=ih.sum _ _ _ _ iq hb
     have l2:=zap ht
     have it:In1 t:=iq.of (λz h=>g2.sub z (za1 ht z h)) (by have:=g2.len;lia)
     have g3:=ih.expr _ _ _ _ it hx
     have l3:=zap hu
     have iu:In1 u:=it.of (λz h=>g3.sub z (za1 hu z h)) (by have:=g3.len;lia)
     have g4:=ih.expr _ _ _ _ iu hy
     have m1:=g1.len;have m2:=g2.len;have m3:=g3.len;have m4:=g4.len
     refine⟨?_,λz hz=>?_,λz hz=>?_⟩
     ·simp only[za7,qfb,qfd,qf5];lia
     ·exact qfv (g1.sub z (za1 hq z (g2.sub z (za1 ht z (g3.sub z (za1 hu z (g4.sub z hz)))))))
     ·simp only[za7,qfj,qfo,qha,or_false]at hz
      rcases hz with hz|hz|rfl|hz|hz|rfl
      ·exact g1.bnd z hz
      ·exact g2.bnd z hz
      ·trivial
      ·exact g3.bnd z hz
      ·exact g4.bnd z hz
      ·trivial
    ·exact ih.sum _ _ _ _ hi h
  ·simp only[pSum,bind,qfi]at h
   obtain⟨a,ha,h⟩:=h
   have g1:=ih.term _ _ _ _ hi ha
   have g2:=ih.sumR _ _ _ _ _ (hi.of g1.sub (by have:=g1.len;lia)) h
   have m1:=g1.len;have m2:=g2.len
   exact⟨by lia,λt ht=>g1.sub t (g2.sub t ht),g2.bnd g1.bnd⟩
  ·simp only[pSumRest]at h
   split at h
   ·next op ho=>
    simp only[bind,qfi]at h
    obtain⟨b,hb,h⟩:=h
    have l0:=zjv ho
    have g1:=ih.term _ _ _ _ (hi.drop1 1) hb
    have g2:=ih.sumR _ _ _ _ _ ((hi.drop1 1).of g1.sub (by have:=g1.len;lia)) h
    have m1:=g1.len;have m2:=g2.len
    refine⟨?_,λt ht=>qfv (g1.sub t (g2.sub t ht)),λha=>g2.bnd λx hx=>?_⟩
    ·simp only[za7,qfb,qfd,qf5]at m2;lia
    ·simp only[za7,qfj,qfo,qha,or_false]at hx
     rcases hx with hx|hx|rfl
     ·exact ha x hx
     ·exact g1.bnd x hx
     ·exact qcl op
   ·simp only[qfl.injEq,Prod.mk.injEq]at h;obtain⟨rfl,rfl⟩:=h;exact⟨qfh _,λ_ h=>h,λh=>h⟩
  ·simp only[pTerm,bind,qfi]at h
   obtain⟨a,ha,h⟩:=h
   have g1:=ih.power _ _ _ _ hi ha
   have g2:=ih.termR _ _ _ _ _ (hi.of g1.sub (by have:=g1.len;lia)) h
   have m1:=g1.len;have m2:=g2.len
   exact⟨by lia,λt ht=>g1.sub t (g2.sub t ht),g2.bnd g1.bnd⟩
  ·simp only[pTermRest]at h
   split at h
   ·next op ho=>
    simp only[bind,qfi]at h
    obtain⟨b,hb,h⟩:=h
    have l0:=zjv ho
    have g1:=ih.power _ _ _ _ (hi.drop1 1) hb
    have g2:=ih.termR _ _ _ _ _ ((hi.drop1 1).of g1.sub (by have:=g1.len;lia)) h
    have m1:=g1.len;have m2:=g2.len
    refine⟨?_,λt ht=>qfv (g1.sub t (g2.sub t ht)),λha=>g2.bnd λx hx=>?_⟩
    ·simp only[za7,qfb,qfd,qf5]at m2;lia
    ·simp only[za7,qfj,qfo,qha,or_false]at hx
     rcases hx with hx|hx|rfl
     ·exact ha x hx
     ·exact g1.bnd x hx
     ·exact qcl op
   ·simp only[qfl.injEq,Prod.mk.injEq]at h;obtain⟨rfl,rfl⟩:=h;exact⟨qfh _,λ_ h=>h,λh=>h⟩
  ·simp only[pPower,bind,qfi]at h
   obtain⟨a,ha,h⟩:=h
   have g1:=ih.factor _ _ _ _ hi ha
   have m1:=g1.len
   have i2:In1 a.2:=hi.of g1.sub (by lia)
   split at h
   ·simp only[pure,qfl.injEq]at h;subst h;exact g1
   ·next q hq=>
    have l2:=zap hq
    have iq:In1 q:=i2.of (za1 hq) (by lia)
    split at h
    ·next z hz=>
     have l3:=zap hz
     have iz:In1 z:=iq.of (za1 hz) (by lia)
     simp only[bind,qfi,pure,qfl.injEq,Prod.mk.injEq]at h
     obtain⟨k,hk,rfl,rfl⟩:=h
     have:=zhq hk
     have pf:=zm1 iz hk
     refine⟨by simp only[za7,qfb,qfd,qf5];lia,λt ht=>g1.sub t (za1 hq t (za1 hz t (pf.2 t ht))),λx hx=>?_⟩
     simp only[za7,qfj,qfo,qha,or_false]at hx
     rcases hx with hx|rfl
     ·exact g1.bnd x hx
     ·exact⟨by have:=pf.1;lia,by have:=pf.1;lia⟩
    ·simp only[bind,qfi,pure,qfl.injEq,Prod.mk.injEq]at h
     obtain⟨k,hk,rfl,rfl⟩:=h
     have:=zhq hk
     have pf:=zm1 iq hk
     refine⟨by simp only[za7,qfb,qfd,qf5];lia,λt ht=>g1.sub t (za1 hq t (pf.2 t ht)),λx hx=>?_⟩
     simp only[za7,qfj,qfo,qha,or_false]at hx
     rcases hx with hx|rfl
     ·exact g1.bnd x hx
     ·exact⟨by have:=pf.1;lia,by have:=pf.1;lia⟩
  ·cases ts with
   |nil=>simp[pFactor]at h
   |cons t q=>
    simp only[pFactor]at h
    have iq:In1 q:=hi.of (λz hz=>by simp[hz]) (by simp)
    split at h
    ·simp only[qfl.injEq,Prod.mk.injEq]at h
     obtain⟨rfl,rfl⟩:=h
     refine⟨?_,λz hz=>by simp[hz],λx hx=>?_⟩
     ·simp[za7];lia
     ·simp only[za7,qfo,qha,or_false]at hx
      subst hx;split <;> trivial
    ·split at h
     ·split at h
      ·next hp=>
       have h0:=zem hp
       simp only[bind,qfi,pure,qfl.injEq,Prod.mk.injEq]at h
       obtain⟨l,hl,rfl,rfl⟩:=h
       obtain⟨g,gl⟩:=ih.args _ _ _ _ (iq.drop1 1) hl
       have m1:=g.len
       have l10:=hi.2
       simp only[qfd]at l10
       refine⟨by simp only[za7,qfb,qfd,qf5];lia,λz hz=>by have:=qfv (g.sub z hz);simp[this],λx hx=>?_⟩
       simp only[za7,qfj,qfo,qha,or_false]at hx
       rcases hx with hx|rfl
       ·exact g.bnd x hx
       ·show l.1.list.length<1000000
        lia
      ·simp only[qfl.injEq,Prod.mk.injEq]at h
       obtain⟨rfl,rfl⟩:=h
       refine⟨by simp[za7];lia,λz hz=>by simp[hz],λx hx=>?_⟩
       simp only[za7,qfo,qha,or_false]at hx
       subst hx;trivial
     ·split at h
      ·split at h
       ·cases h
       ·simp only[bind,qfi,pure,qfl.injEq,Prod.mk.injEq]at h
        obtain⟨l,hl,rfl,rfl⟩:=h
        have g:=ih.factor _ _ _ _ iq hl
        have m1:=g.len
        exact⟨by simp only[za7,qfd];lia,λz hz=>by simp[g.sub z hz],λx hx=>g.bnd x (by simpa [za7] using hx)⟩
      ·simp only[bind,qfi,pure,qfl.injEq,Prod.mk.injEq]at h
       obtain⟨q',hq,l,hl,z,hz,rfl,rfl⟩:=h
       have l1:=zap hq
       have g:=ih.expr _ _ _ _ (hi.of (za1 hq) (by lia)) hl
       have l2:=zap hz
       have m1:=g.len
       exact⟨by lia,λu hu=>za1 hq u (g.sub u (za1 hz u hu)),g.bnd⟩
  ·simp only[pArgs]at h
   split at h
   ·next z hz=>
    simp only[qfl.injEq,Prod.mk.injEq]at h
    obtain⟨rfl,rfl⟩:=h
    have:=zap hz
    exact⟨⟨by simp[zdx];lia,za1 hz,λx hx=>by simp[zdx]at hx⟩,by simp[Es.list];lia⟩
   ·exact ih.more _ _ _ _ hi h
  ·simp only[pMore,bind,qfi]at h
   obtain⟨a,ha,h⟩:=h
   have g1:=ih.expr _ _ _ _ hi ha
   have m1:=g1.len
   split at h
   ·next z hz=>
    simp only[pure,qfl.injEq,Prod.mk.injEq]at h
    obtain⟨rfl,rfl⟩:=h
    have:=zap hz
    have s1:=(shr f).expr _ _ _ _ ha
    refine⟨⟨by simp[zdx];lia,λt ht=>g1.sub t (za1 hz t ht),λx hx=>g1.bnd x (by simpa [zdx] using hx)⟩,by simp[Es.list];lia⟩
   ·simp only[bind,qfi,pure,qfl.injEq,Prod.mk.injEq]at h
    obtain⟨c,hc,l,hl,rfl,rfl⟩:=h
    have l1:=zap hc
    have ic:In1 c:=hi.of (λt ht=>g1.sub t (za1 hc t ht)) (by lia)
    obtain⟨g2,g3⟩:=ih.more _ _ _ _ ic hl
    have m2:=g2.len
    have s1:=(shr f).expr _ _ _ _ ha
    refine⟨⟨by simp only[zdx,qfb];lia,λt ht=>g1.sub t (za1 hc t (g2.sub t ht)),λx hx=>?_⟩,by simp only[Es.list,qfd];lia⟩
    simp only[zdx,qfj]at hx
    exact hx.elim (g1.bnd x) (g2.bnd x)
noncomputable def zrc(f d:Nat)(ts:List Tok):Option (E×List Tok):=match nameAt ts with
 |none=>none
 |some x=>match eat "(" (ts.drop 1) with
  |none=>some (.var x,ts.drop 1)
  |some q=>(pArgs f (d+1) q).map λl=>(.call x l.1,l.2)
noncomputable def zxz:List Tok->Option (E×List Tok)
 |t::r=>some (.num (number t.text).1 (number t.text).2,r)
 |[]=>none
theorem zbb{w:String}{ts:List Tok}:eat w ts=if isTok w ts then some (ts.drop 1) else none:=rfl
theorem znd{w:String}{t:Tok}{r:List Tok}(h:isTok w (t::r)=true):t.kind=2:=by
 simp only[isTok,qft,beq_iff_eq]at h;exact h.1
theorem zf7{w:String}{t:Tok}{r:List Tok}(h:isTok w (t::r)=true):t.text=bytesOf w:=by
 simp only[isTok,qft,beq_iff_eq]at h;exact h.2
theorem zuw(f d:Nat)(ts:List Tok)(hts:∀t∈ts,ziy t):pFactor (f+1) d ts=match eat "-" ts with
  |some r=>if 32<=d then none else (pFactor f (d+1) r).map λe=>(.neg e.1,e.2)
  |none=>match eat "(" ts with
   |some r=>(match pExpr f (d+1) r with
    |none=>none
    |some e=>(eat ")" e.2).map λz=>(e.1,z))
   |none=>if zb2 ts=zc9 then zxz ts else zrc f d ts:=by
 cases ts with
 |nil=>
  simp only[pFactor,zbb,isTok,qfz,if_false,zrc,nameAt]
  rw[if_neg (by decide)]
 |cons t r=>
  have ht:=hts t (by simp)
  simp only[pFactor]
  rcases zeb ht with hk|hk|hk
  ·have n1:∀w,isTok w (t::r)=false:=λw=>by cases e:isTok w (t::r) with
    |false=>rfl
    |true=>have:=znd e;lia
   have na:¬zb2 (t::r)=zc9:=λz=>by have:=(zep ht).mp z;lia
   rw[zbb,zbb,n1,n1,if_neg (by lia),if_pos hk,if_neg na]
   simp only[qfz,if_false,zrc,nameAt,hk,if_true,qkh,qhu,zbb]
   cases isTok "(" r with
   |false=>simp
   |true=>
    simp only[if_true,bind,pure]
    cases pArgs f (d+1) (r.drop 1) <;> rfl
  ·have n1:∀w,isTok w (t::r)=false:=λw=>by cases e:isTok w (t::r) with
    |false=>rfl
    |true=>have:=znd e;lia
   rw[zbb,zbb,n1,n1,if_pos hk,if_pos ((zep ht).mpr hk)]
   simp[zxz]
  ·have na:¬zb2 (t::r)=zc9:=λz=>by have:=(zep ht).mp z;lia
   have nn:nameAt (t::r)=none:=by simp[nameAt,hk]
   rw[if_neg (by lia),if_neg (by lia),zbb,zbb]
   cases h1:isTok "-" (t::r) with
   |true=>
    simp only[if_true,qkh,qhu]
    show (if DEEP<=d then none else _)=_
    by_cases h32:32<=d
    ·rw[if_pos (show DEEP<=d from h32),if_pos h32]
    ·rw[if_neg (show ¬DEEP<=d from h32),if_neg h32]
     simp only[bind,pure]
     cases pFactor f (d+1) r <;> rfl
   |false=>
    simp only[qfz,if_false]
    cases h2:isTok "(" (t::r) with
    |true=>
     simp only[bind,pure,qf3,if_true]
     cases pExpr f (d+1) ((t::r).drop 1) with
     |none=>rfl
     |some e=>
      simp only[qf3]
      cases eat ")" e.2 <;> rfl
    |false=>
     simp only[qfz,if_false,bind,Option.bind_none]
     rw[if_neg na,zrc,nn]
theorem zxd(f d:Nat)(ts:List Tok):pPower (f+1) d ts=match pFactor f d ts with
  |none=>none
  |some a=>match eat "^" a.2 with
   |none=>some a
   |some q=>match eat "-" q with
    |some z=>(power z).map λk=>(.pow a.1 (-(k.1:Int)),k.2)
    |none=>(power q).map λk=>(.pow a.1 (k.1:Int),k.2):=by
 simp only[pPower,bind,pure]
 cases pFactor f d ts with
 |none=>rfl
 |some a=>
  simp only[qf3]
  cases eat "^" a.2 with
  |none=>rfl
  |some q=>
   simp only
   cases eat "-" q with
   |none=>simp only;cases power q <;> rfl
   |some z=>simp only;cases power z <;> rfl
theorem qaq(f d:Nat)(ts:List Tok):pTerm (f+1) d ts=match pPower f d ts with
  |none=>none
  |some a=>pTermRest f d a.1 a.2:=by
 simp only[pTerm,bind]
 cases pPower f d ts <;> rfl
theorem qdy(f d:Nat)(ts:List Tok):pSum (f+1) d ts=match pTerm f d ts with
  |none=>none
  |some a=>pSumRest f d a.1 a.2:=by
 simp only[pSum,bind]
 cases pTerm f d ts <;> rfl
theorem zfm(f d:Nat)(a:E)(ts:List Tok):pTermRest (f+1) d a ts=match eat "*" ts with
  |some r=>(match pPower f d r with
   |none=>none
   |some b=>pTermRest f d (.bin 42 a b.1) b.2)
  |none=>match eat "/" ts with
   |some r=>(match pPower f d r with
    |none=>none
    |some b=>pTermRest f d (.bin 47 a b.1) b.2)
   |none=>some (a,ts):=by
 simp only[pTermRest,opOf,zbb,qgs,List.find?_nil]
 cases isTok "*" ts with
 |true=>
  simp only[if_true,qfy,bind]
  cases pPower f d (ts.drop 1) <;> rfl
 |false=>
  simp only[qfz,if_false]
  cases isTok "/" ts with
  |true=>
   simp only[if_true,qfy,bind]
   cases pPower f d (ts.drop 1) <;> rfl
  |false=>simp
theorem zgv(f d:Nat)(a:E)(ts:List Tok):pSumRest (f+1) d a ts=match eat "+" ts with
  |some r=>(match pTerm f d r with
   |none=>none
   |some b=>pSumRest f d (.bin 43 a b.1) b.2)
  |none=>match eat "-" ts with
   |some r=>(match pTerm f d r with
    |none=>none
    |some b=>pSumRest f d (.bin 45 a b.1) b.2)
   |none=>some (a,ts):=by
 simp only[pSumRest,opOf,zbb,qgs,List.find?_nil]
 cases isTok "+" ts with
 |true=>
  simp only[if_true,qfy,bind]
  cases pTerm f d (ts.drop 1) <;> rfl
 |false=>
  simp only[qfz,if_false]
  cases isTok "-" ts with
  |true=>
   simp only[if_true,qfy,bind]
   cases pTerm f d (ts.drop 1) <;> rfl
  |false=>simp
theorem ztf(f d:Nat)(ts:List Tok):pExpr (f+1) d ts=if 32<d then none else match eat "if" ts with
  |none=>pSum f d ts
  |some r=>match pSum f d r with
   |none=>none
   |some a=>match eat "<" a.2 with
    |none=>none
    |some q=>match pSum f d q with
     |none=>none
     |some b=>match eat "then" b.2 with
      |none=>none
      |some t=>match pExpr f (d+1) t with
       |none=>none
       |some x=>match eat "else" x.2 with
        |none=>none
        |some u=>match pExpr f (d+1) u with
         |none=>none
         |some y=>some (.ite a.1 b.1 x.1 y.1,y.2):=by
 simp only[pExpr]
 show (if 32<d then none else _)=_
 by_cases h:32<d
 ·rw[if_pos h,if_pos h]
 ·rw[if_neg h,if_neg h,zbb]
  cases isTok "if" ts with
  |false=>simp
  |true=>
   simp only[if_true,bind,pure]
   cases pSum f d (ts.drop 1) with
   |none=>rfl
   |some a=>
    simp only[qf3]
    cases eat "<" a.2 with
    |none=>rfl
    |some q=>
     simp only[qf3]
     cases pSum f d q with
     |none=>rfl
     |some b=>
      simp only[qf3]
      cases eat "then" b.2 with
      |none=>rfl
      |some t=>
       simp only[qf3]
       cases pExpr f (d+1) t with
       |none=>rfl
       |some x=>
        simp only[qf3]
        cases eat "else" x.2 with
        |none=>rfl
        |some u=>
         simp only[qf3]
         cases pExpr f (d+1) u <;> rfl
noncomputable def zq2(f d:Nat)(ts:List Tok):Option (Es×List Tok):=match eat "," ts with
 |some c=>pMore f d c
 |none=>(eat ")" ts).map λz=>(.nil,z)
theorem zt3{v w:String}{ts r:List Tok}(hvw:bytesOf v≠bytesOf w)(h:eat v ts=some r):eat w ts=none:=by
 rw[zbb]at h ⊢
 cases hv:isTok v ts with
 |false=>rw[hv]at h;simp at h
 |true=>
  cases ts with
  |nil=>simp[isTok]at hv
  |cons t q=>
   cases hw:isTok w (t::q) with
   |false=>rfl
   |true=>exact absurd ((zf7 hv).symm.trans (zf7 hw)) hvw
theorem ztd(f d:Nat)(ts:List Tok):pMore (f+1) d ts=match pExpr f d ts with
  |none=>none
  |some e=>(zq2 f d e.2).map λl=>(.cons e.1 l.1,l.2):=by
 simp only[pMore,bind,pure]
 cases pExpr f d ts with
 |none=>rfl
 |some e=>
  simp only[qf3]
  unfold zq2
  cases hc:eat "," e.2 with
  |some c=>
   rw[zt3 (w:=")") (by decide) hc]
   simp only[qf3]
   cases pMore f d c <;> rfl
  |none=>
   cases eat ")" e.2 <;> rfl
theorem qar(f d:Nat)(ts:List Tok):pArgs (f+1) d ts=match eat ")" ts with
  |some z=>some (.nil,z)
  |none=>pMore f d ts:=by
 simp only[pArgs]
 cases eat ")" ts <;> rfl
end Mir
namespace L3
open PySem
abbrev frm(l:List Env):List Addr:=l.filterMap (·.frame)
def Trc(h:Heap)(e:Addr)(vs:Array Value)(T:Option Addr):Prop:=match T with
 |none=>vs[1]?=some .none
 |some T=>vs[1]?=some (.ref T)/\T≠e/\∃oT ts fl,h.get? T=some oT/\oT.data=.fields ts/\ts[3]?=some fl
structure Gone(fs:List Addr)(e:Addr)(oe:Obj)(T:Option Addr)(h h':Heap):Prop where
 keep:∀b o,b≠e->some b≠T->b ∉ fs->h.get? b=some o->h'.get? b=some o
 slot:∀b o,b≠e->some b≠T->h.get? b=some o->∃sl,h'.get? b=some { o with slots:=sl }
 exc:∃T',h'.get? e=some (oe.mapFields (·.setIfInBounds 1 (.ref T')))/\(h.objs.size<=T'\/T=some T')/\T'≠e/\∃oT ts fl,h'.get? T'=some oT/\oT.data=.fields ts/\ts[3]?=some fl
theorem zpq{oe:Obj}{vs:Array Value}{T:Addr}(hd:oe.data=.fields vs)(h1:vs[1]?=some (.ref T)):oe.mapFields (·.setIfInBounds 1 (.ref T))=oe:=by
 obtain⟨c,d,dt,sl⟩:=oe
 dsimp only at hd
 subst hd
 simp only[Obj.mapFields]
 rw[Array.setIfInBounds_same vs 1 _ h1]
section
variable{M:Model}{A:Around}{E:Value->Shared->Prop}{s:Shared}
theorem frameX{base:Heap}{env env₀:Env}{outer:List Env}{L:Addr}{Q:Value->Shared->Prop}(hfr:A.frames=some (env₀::outer))(hl:s.heap.FunFrames base (env₀::outer))(hf₀:env₀.frame=some L)(hf:env.frame=some L)(h:∀h',Heap.SlotsOnly (frm (env₀::outer)) s.heap h'->Q (.ref L) { s with heap:=h' }):wpAny M A (frameOf env) Q E s:=by
 have e:frameOf env=frameOf env₀:=by unfold frameOf;rw[hf,hf₀]
 rw[e]
 exact wpAny_frameOf_fun hfr hl hf₀ h
theorem qcj{base:Heap}{env env₀:Env}{outer:List Env}{L e:Addr}{oe:Obj}{vs:Array Value}{hd₀:Value}{nx:Bool}{Q:Unit->Shared->Prop}(hfr:A.frames=some (env₀::outer))(hl:s.heap.FunFrames base (env₀::outer))(hf₀:env₀.frame=some L)(hf:env.frame=some L)(he:s.heap.get? e=some oe)(hd:oe.data=.fields vs)(hsz:1<vs.size)(h:∀h',Gone (frm (env₀::outer)) e oe none s.heap h'->Q () { s with heap:=h' }) :
  wpAny M A (do let a <-frameOf env;let pl <-entryPlaceOf L nx;let b <-EntryCells.newEntry hd₀ a .none (rawInt L) .none pl;setField (.ref e) 1 b) Q E s:=by
 have ne:e ∉ frm (env₀::outer):=λhm=>by
  obtain⟨_,o,ho,q⟩:=hl.mem hm
  rw[he]at ho;cases ho;exact q vs hd
 refine wpAny_bind (frameX hfr hl hf₀ hf λg hg=>wpAny_bind (wpAny_entryPlaceOf λpl hpl=>?_))
 unfold EntryCells.newEntry newFields
 refine wpAny_bind (wpAny_newObj_type ?_ (hpl.sizeOk5 _ _ _ _ _))
 generalize hR:([hd₀,Value.ref L,.none,rawInt L,.none]++(if pl.isEmpty then qfk 6 Value.none else pl)).toArray=rs
 have h3:3<rs.size:=by
  rw[<-hR];simp only[qfr,qfb,qfd,qf5];lia
 have e1:g.get? e=some oe:=(hg.2.1 e ne).trans he
 have e2:(g.push { cls:=.type "traceback",dict:=none,data:=.fields rs }).get? e=some oe:=Heap.get?_push_of_some _ e1
 refine wpAny_setField e2 hd hsz (h _ ?_)
 have hTe:g.objs.size≠e:=qhm (Heap.lt_size e1)
 have d3:=Obj.data_mapFields hd (·.setIfInBounds 1 (Value.ref g.objs.size))
 have e3:=Heap.get?_update_self (Obj.mapFields (·.setIfInBounds 1 (Value.ref g.objs.size))) e2 (Obj.isFreed_of_fields d3)
 have t3:((g.push { cls:=.type "traceback",dict:=none,data:=.fields rs }).update e (Obj.mapFields (·.setIfInBounds 1 (Value.ref g.objs.size)))).get? g.objs.size=some { cls:=.type "traceback",dict:=none,data:=.fields rs }:=
  (Heap.get?_update_other _ _ (Ne.symm hTe)).trans (Heap.get?_push_size g rfl)
 have kp:∀b o,b≠e->g.get? b=some o->((g.push { cls:=.type "traceback",dict:=none,data:=.fields rs }).update e (Obj.mapFields (·.setIfInBounds 1 (Value.ref g.objs.size)))).get? b=some o:=λb o hb q=>by
  rw[Heap.get?_update_other _ _ (Ne.symm hb)]
  exact Heap.get?_push_of_some _ q
 refine⟨λb o hb _ hbf q=>kp b o hb ((hg.2.1 b hbf).trans q),λb o hb _ q=>?_,g.objs.size,e3,.inl ?_,hTe,_,rs,rs[3],t3,rfl,by simp[h3]⟩
 ·obtain⟨sl,q'⟩:=hg.2.2 b o q
  exact⟨sl,kp b _ hb q'⟩
 ·rw[hg.1];exact qfh _
theorem Gone.step{fs:List Addr}{e T:Addr}{oe:Obj}{h h₁ h':Heap}(hz:h.objs.size<=h₁.objs.size)(k:∀b,b≠T->h₁.get? b=h.get? b)(g:Gone fs e oe none h₁ h'):Gone fs e oe (some T) h h':=by
 refine⟨λb o hb hT hf q=>g.keep b o hb (by simp) hf ((k b λz=>hT (by rw[z])).trans q),λb o hb hT q=>g.slot b o hb (by simp) ((k b λz=>hT (by rw[z])).trans q),?_⟩
 obtain⟨T',a,b,c,d⟩:=g.exc
 refine⟨T',a,?_,c,d⟩
 rcases b with b|b
 ·exact .inl (qgn hz b)
 ·cases b
theorem noteX{base:Heap}{env env₀:Env}{outer:List Env}{L e:Addr}{oe:Obj}{vs:Array Value}{T:Option Addr}{Q:Unit->Shared->Prop}(hfr:A.frames=some (env₀::outer))(hl:s.heap.FunFrames base (env₀::outer))(hf₀:env₀.frame=some L)(hf:env.frame=some L)(he:s.heap.get? e=some oe)(hd:oe.data=.fields vs)(tr:Trc s.heap e vs T)(h:∀h',Gone (frm (env₀::outer)) e oe T s.heap h'->Q () { s with heap:=h' }):wpAny M A (noteFrame (.ref e) env) Q E s:=by
 unfold noteFrame
 simp only[hf]
 cases T with
 |none=>
  have h1:vs[1]?=some .none:=tr
  refine wpAny_bind (wpAny_field he hd h1 ?_)
  rw[if_neg (by decide)]
  exact qcj hfr hl hf₀ hf he hd (qg3.mp h1).1 h
 |some T=>
  obtain⟨h1,hTe,oT,ts,fl,hT,hdT,h3⟩:=tr
  refine wpAny_bind (wpAny_field he hd h1 ?_)
  rw[if_pos (show (Value.ref T != Value.none)=true from by simp)]
  refine wpAny_bind (wpAny_field hT hdT h3 ?_)
  by_cases hfl:(fl == rawInt L)=true
  ·rw[if_pos hfl]
   refine wpAny_pure (h s.heap ⟨λb o _ _ _ q=>q,λb o _ _ q=>⟨o.slots,q⟩,T,by rw[zpq hd h1];exact he,.inr rfl,hTe,oT,ts,fl,hT,hdT,h3⟩)
  ·rw[if_neg hfl]
   refine wpAny_bind (wpAny_setField hT hdT (qg3.mp h3).1 ?_)
   have oth:∀b,b≠T->(s.heap.update T (Obj.mapFields (·.setIfInBounds 3 Value.none))).get? b=s.heap.get? b:=λb hb=>Heap.get?_update_other _ _ (Ne.symm hb)
   refine qcj (s:={ s with heap:=s.heap.update T (Obj.mapFields (·.setIfInBounds 3 Value.none)) }) hfr (hl.of_keeps λb o hb hnf=>⟨o,(oth b λq=>?_).trans hb,rfl⟩) hf₀ hf ((oth e (Ne.symm hTe)).trans he) hd (qg3.mp h1).1
    λh' g=>h h' (Gone.step (qh2 (Heap.size_update _ _ _).symm) oth g)
   subst q;rw[hT]at hb;cases hb;exact hnf ts hdT
theorem qeu{e:Addr}{oe:Obj}{vs:Array Value}{T:Addr}{f:Option Addr}{Q:Unit->Shared->Prop}{fs:List Addr}(he:s.heap.get? e=some oe)(hd:oe.data=.fields vs)(tr:Trc s.heap e vs (some T))(h:∀h',Gone fs e oe (some T) s.heap h'->Q () { s with heap:=h' }):wpAny M A (setFlight (.ref e) f) Q E s:=by
 obtain⟨h1,hTe,oT,ts,fl,hT,hdT,h3⟩:=tr
 have hsz:=(qg3.mp h3).1
 unfold setFlight
 refine wpAny_bind (wpAny_field he hd h1 ?_)
 rw[if_pos (show (Value.ref T != Value.none)=true from by simp)]
 refine wpAny_setField hT hdT hsz (h _ ?_)
 have oth:∀b,b≠T->(s.heap.update T (Obj.mapFields (·.setIfInBounds 3 (f.elim Value.none λf=>rawInt f)))).get? b=s.heap.get? b:=λb hb=>Heap.get?_update_other _ _ (Ne.symm hb)
 refine⟨λb o _ hT' _ q=>(oth b λz=>hT' (by rw[z])).trans q,λb o _ hT' q=>⟨o.slots,(oth b λz=>hT' (by rw[z])).trans q⟩,T,?_,.inr rfl,hTe,_,_,f.elim Value.none (λf=>rawInt f),Heap.get?_update_self _ hT (Obj.isFreed_of_fields (Obj.data_mapFields hdT _)),Obj.data_mapFields hdT _,?_⟩
 ·rw[zpq hd h1];exact (oth e (Ne.symm hTe)).trans he
 ·simp[hsz]
end
def bmE:List Value:=[.type "Exception",.type "BaseException",.type "object"]
abbrev zl1(C t:Addr):Obj:={ cls:=.ref C,data:=.fields #[.ref t,.none,.none,.none,.bool false,.none] }
def Finds(M:Model)(h:Heap)(C:Addr)(x:Str)(r:Option Value):Prop:=∀(A:Around)(Q:Option Value->Shared->Prop)(E:Value->Shared->Prop)(s:Shared),(∀b o,h.get? b=some o->s.heap.get? b=some o)->Q r s->wpAny M A (typeLookup (.ref C) x) Q E s
section
variable{prog:Program}{w:World}{A:Around}{E:Value->Shared->Prop}{h:Heap}{g:Array GenState}{d:Drawn}{t:Nat}{os:OsState}
variable{nm q:Str}{C R N:Addr}{bs:List Value}{sn:List Str}{sub:List Value}{ab:Bool}{col:Option Bool}{dd:Option Addr}{k0 k1 k2 k3 k5:Option Value}
abbrev clsX(nm q:Str)(C R N:Addr)(bs:List Value)(sn:List Str)(sub:List Value)(ab:Bool)(col:Option Bool)(dd:Option Addr)(k0 k1 k2 k3 k5:Option Value):Obj:=
 excClassObj nm q C N bs (.ref R::bmE) true sn sub ab col dd k0 k1 k2 k3 k5 "Exception.__new__"
theorem zr1{C R:Addr}{X:String}(hx:bmE.contains (.type X)=true):(Value.ref C::.ref R::bmE).contains (.type X)=true:=by
 rw[qgt,qgt,hx];simp
theorem zpz{C R:Addr}{X:String}(hx:bmE.contains (.type X)=false):(Value.ref C::.ref R::bmE).contains (.type X)=false:=by
 rw[qgt,qgt,hx];rfl
theorem zvn{M:Model}{rest:List Value}{Q:Unit->Shared->Prop}(hC:h.get? C=some (clsX nm q C R N bs sn sub ab col dd k0 k1 k2 k3 k5))(hq:Q () ⟨h,g,d,t,os⟩) :
  wpAny M A (checkBuiltinCall "Exception.__new__" ⟨.ref C::rest,[]⟩) Q E ⟨h,g,d,t,os⟩:=by
 have F:=qib
 have hc:(Value.ref C::.ref R::bmE).contains (.type "Exception")=true:=zr1 (by decide)
 have hst:=F.noStar
 simp only[checkBuiltinCall,F.newKind,F.newSplit,F.newRow]
 repeat (first
  |refine wpAny_loadPart_at hC ?_
  |(refine wpAny_isSubtype_exc hC ?_;rw[hc])
  |refine wpAny_staticBase_exc hC ?_
  |refine wpAny_madeBy_exc hC ?_
  |simp only[bne_self_eq_false,qfz,if_false]
  |wp_step)
 exact hq
theorem newX{Rr:Result->Shared->Prop}{rest:List Value}(hC:h.get? C=some (clsX nm q C R N bs sn sub ab col dd k0 k1 k2 k3 k5))(hz:rest.length<=sizeLine)(hq:Rr (.ok (.ret (.ref (h.objs.size+1)))) ⟨(h.push { cls:=.type "tuple",data:=.seq rest.toArray }).push (zl1 C h.objs.size),g,d,t,os⟩) :
  codeAny (model prog w) A (.builtin "Exception.__new__" ⟨.ref C::rest,[]⟩) Rr ⟨h,g,d,t,os⟩:=by
 have F:=qib
 have hends:=F.ends
 have c1:(Value.ref C::.ref R::bmE).contains (.type "Exception")=true:=zr1 (by decide)
 have c2:(Value.ref C::.ref R::bmE).contains (.type "AttributeError")=false:=zpz (by decide)
 have c3:(Value.ref C::.ref R::bmE).contains (.type "NameError")=false:=zpz (by decide)
 refine codeAny_builtinAt F.entry ?_
 unfold Builtin.«BaseException.__new__»
 refine wpAt_bind ?_
 show wpAt _ _ _ (stack >>= _) _ _ _
 refine wpAt_bind (wpAt_stack λp below=>wpAt_of_wpAny ?_)
 wp_walk
 refine wpAt_of_wpAny ?_
 rw[F.owner]
 repeat (first
  |with_reducible refine wpAny_madeHere_exc F.canon hC ?_
  |with_reducible refine wpAny_loadPart_at hC ?_
  |(with_reducible refine wpAny_isSubtype_exc hC ?_;first|rw[c1]|rw[c2]|rw[c3])
  |wp_step)
 show Rr _ _
 rw[Heap.size_push]
 exact hq
theorem zue{rest:List Value}{fI:Addr}{oI:Obj}{Q:Fin->Shared->Prop}(hC:h.get? C=some (clsX nm q C R N bs sn sub ab col dd k0 k1 k2 k3 k5))(hi:Finds (model prog w) h C "__init__" (some (.ref fI)))(hf:h.get? fI=some oI)(hfc:oI.cls=.type "function")(hz:rest.length<=sizeLine)(hq:wpAny (model prog w) A (call (.ref fI) (.ref (h.objs.size+1)::rest)) (λr s'=>r=.none/\Q (.done (.ret (.ref (h.objs.size+1)))) s') E
   ⟨(h.push { cls:=.type "tuple",data:=.seq rest.toArray }).push (zl1 C h.objs.size),g,d,t,os⟩) :
  wpAny (model prog w) A (Builtin.«type.__call__» ⟨.ref C::rest,[]⟩) Q E ⟨h,g,d,t,os⟩:=by
 have F:=qib
 repeat (first|with_reducible refine wpAny_loadPart_at hC ?_|with_reducible refine wpAny_madeBy_exc hC ?_|wp_step)
 refine codeAny_call_builtin_code (Code.quiet_builtin _ F.quiet) (zvn hC (newX hC hz ?_))
 show wpAny _ _ _ _ _ _
 have up:∀b o,h.get? b=some o->((h.push { cls:=.type "tuple",data:=.seq rest.toArray }).push (zl1 C h.objs.size)).get? b=some o:=λb o e=>Heap.get?_push_of_some _ (Heap.get?_push_of_some _ e)
 have hget:((h.push { cls:=.type "tuple",data:=.seq rest.toArray }).push (zl1 C h.objs.size)).get? (h.objs.size+1)=some (zl1 C h.objs.size):=by
  have:=Heap.get?_push_size (h.push { cls:=.type "tuple",data:=.seq rest.toArray }) (o:=zl1 C h.objs.size) rfl
  rwa [Heap.size_push]at this
 have hcC:(Value.ref C::.ref R::bmE).contains (.ref C)=true:=by simp
 unfold isInstance
 repeat (first|with_reducible refine wpAny_loadPart_at hget ?_|(with_reducible refine wpAny_isSubtype_exc (up _ _ hC) ?_;rw[hcC])|wp_step)
 show wpAny _ _ (typeLookup (.ref C) _) _ _ _
 refine hi _ _ _ _ up (wpAny_holding (wpAny_bind ?_))
 unfold bindSpecial
 refine wpAny_bind (wpAny_typeOf (T:="function") ⟨_,up _ _ hf,hfc⟩ ?_)
 rw[if_pos (by decide)]
 refine wpAny_pure (wpAny_bind (wpAny_mono hq (λr s' hr=>?_) λ_ _ x=>x))
 obtain⟨rfl,hQ⟩:=hr
 wp_walk
 exact hQ
theorem callX{rest:List Value}{fI:Addr}{oI:Obj}{Q:Value->Shared->Prop}(hC:h.get? C=some (clsX nm q C R N bs sn sub ab col dd k0 k1 k2 k3 k5))(hi:Finds (model prog w) h C "__init__" (some (.ref fI)))(hf:h.get? fI=some oI)(hfc:oI.cls=.type "function")(hz:rest.length<=sizeLine)(hq:wpAny (model prog w) (A.under (.builtin "type.__call__" ⟨.ref C::rest,[]⟩)) (call (.ref fI) (.ref (h.objs.size+1)::rest)) (λr s'=>r=.none/\Q (.ref (h.objs.size+1)) s') E
   ⟨(h.push { cls:=.type "tuple",data:=.seq rest.toArray }).push (zl1 C h.objs.size),g,d,t,os⟩) :
  wpAny (model prog w) A (call (.ref C) rest) Q E ⟨h,g,d,t,os⟩:=by
 have f1:=tc_lookup
 have f2:=tc_bind (.ref C)
 have hT:(⟨h,g,d,t,os⟩:Shared).TypeIs (.ref C) "type":=⟨_,hC,rfl⟩
 refine wpAny_call (codeAny_of_tree ?_)
 show wpAny _ _ (callAny (.ref C) _) _ _ _
 repeat (any_goals (first|assumption|with_reducible refine wpAny_loadPart_at hC ?_|wp_step))
 refine⟨rfl,?_⟩
 refine codeAny_call_builtin_at (Code.quiet_builtin _ (by decide +kernel)) entry_typeCall (wpAny_check_type_call_sub hC (zue hC hi hf hfc hz ?_))
 exact hq
theorem qai{env:Env}{M:Model}{s:Shared}{x:Sem Value}{Q:Flow->Shared->Prop}(hh:A.handled=none)(hx:wpAny M A x (λv s₁=>∃e oe,v=.ref e/\s₁.heap.get? C=some (clsX nm q C R N bs sn sub ab col dd k0 k1 k2 k3 k5)/\s₁.heap.get? e=some oe/\oe.cls=.ref C ∧
   (∃t,oe.data=.fields #[.ref t,.none,.none,.none,.bool false,.none])/\E (.ref e) s₁) E s):wpAny M A (raiseStmt env (some x) none) Q E s:=by
 have hcB:(Value.ref C::.ref R::bmE).contains (.type "BaseException")=true:=zr1 (by decide)
 unfold raiseStmt
 refine wpAny_bind (wpAny_mono hx (λv s₁ h₁=>?_) λ_ _ x=>x)
 obtain⟨e,⟨oc,odi,oda,osl⟩,rfl,hC,he,hc,⟨t0,hd⟩,hE⟩:=h₁
 dsimp only at hc hd
 subst hc hd
 obtain⟨hp,g,d,tk,os⟩:=s₁
 repeat (first|with_reducible refine wpAny_loadPart_at he ?_|with_reducible refine wpAny_loadPart_at hC ?_|(with_reducible refine wpAny_isSubtype_exc hC ?_;rw[hcB])|wp_step)
 exact wpAny_raiseNew_none hh hE
end
end L3
namespace L2
open PySem PySem.Spec PyProof.Rows
abbrev Key:=Sum Int Str
def zn6:Key->Value->Bool
 |.inl k,v=>Value.isInt k v
 |.inr x,v=>Value.isStrOf x v
def keyH(w:World):Key->Int
 |.inl k=>hashInt k
 |.inr x=>hashStr w x
theorem zbr:∀{k:Key}{v:Value},zn6 k v=true->(∃i t,k=Sum.inl i/\v=Value.int i t)\/(∃x t,k=Sum.inr x/\v=Value.str x t)
 |.inl i,v,h=>by
  obtain⟨t,e⟩:=Value.isInt_shape (k:=i) (v:=v) h
  exact .inl ⟨i,t,rfl,e⟩
 |.inr x,v,h=>by
  obtain⟨t,e⟩:=Value.isStrOf_shape (x:=x) (v:=v) h
  exact .inr ⟨x,t,rfl,e⟩
theorem zyi(i:Int)(t:Tok):zn6 (.inl i) (.int i t)=true:=by simp[zn6,Value.isInt]
theorem zyh(x:Str)(t:Tok):zn6 (.inr x) (.str x t)=true:=by simp[zn6,Value.isStrOf]
theorem key_ll(a b:Int):decide ((Sum.inl a:Key)=Sum.inl b)=(a == b):=by
 by_cases e:a=b
 ·subst e;simp
 ·have h:¬(Sum.inl a:Key)=Sum.inl b:=λq=>e (Sum.inl.inj q)
  rw[decide_eq_false h]
  exact (beq_eq_false_iff_ne.mpr e).symm
theorem key_rr(a b:Str):decide ((Sum.inr a:Key)=Sum.inr b)=decide (a=b):=by
 by_cases e:a=b
 ·subst e;simp
 ·have h:¬(Sum.inr a:Key)=Sum.inr b:=λq=>e (Sum.inr.inj q)
  rw[decide_eq_false h,decide_eq_false e]
theorem key_lr(a:Int)(b:Str):decide ((Sum.inl a:Key)=Sum.inr b)=false:=decide_eq_false (λq=>nomatch q)
theorem key_rl(a:Str)(b:Int):decide ((Sum.inr a:Key)=Sum.inl b)=false:=decide_eq_false (λq=>nomatch q)
def zbh(prog:Program)(w:World):PySem.KeyKind prog w Key where
 is:=zn6
 hash:=keyH w
 inj:=λv a b ha hb=>by
  rcases zbr ha with ⟨i,t,rfl,rfl⟩|⟨x,t,rfl,rfl⟩
  ·rcases zbr hb with ⟨j,u,rfl,e⟩|⟨y,u,rfl,e⟩
   ·injection e with e1 _;rw[e1]
   ·exact nomatch e
  ·rcases zbr hb with ⟨j,u,rfl,e⟩|⟨y,u,rfl,e⟩
   ·exact nomatch e
   ·injection e with e1 _;rw[e1]
 byValue:=λk v h=>by
  rcases zbr h with ⟨i,t,rfl,rfl⟩|⟨x,t,rfl,rfl⟩ <;> rfl
 pyHash:=λhv h=>by
  rcases zbr hv with ⟨i,t,rfl,rfl⟩|⟨x,t,rfl,rfl⟩
  ·exact wpAny_pyHash_int h
  ·exact wpAny_pyHash_str h
 eqBool:=λhu hv h=>by
  rcases zbr hu with ⟨i,t,rfl,rfl⟩|⟨x,t,rfl,rfl⟩
  ·rcases zbr hv with ⟨j,u,rfl,rfl⟩|⟨y,u,rfl,rfl⟩
   ·rw[key_ll]at h;exact wpAny_eqBool_int h
   ·rw[key_lr]at h;exact SeqAt.EqAt.int_str i t y u _ _ _ _ h
  ·rcases zbr hv with ⟨j,u,rfl,rfl⟩|⟨y,u,rfl,rfl⟩
   ·rw[key_rl]at h;exact SeqAt.EqAt.str_int x t j u _ _ _ _ h
   ·rw[key_rr]at h;exact wpAny_eqBool_str h
 «strs»:=λk x t v h=>by
  rcases zbr h with ⟨i,u,rfl,e⟩|⟨y,u,rfl,e⟩
  ·exact nomatch e
  ·injection e with e1 _
   subst e1
   cases v <;> rfl
theorem zrv(prog:Program)(w:World)(i:Int)(t:Tok):(zbh prog w).is (.inl i) (.int i t)=true:=zyi i t
theorem zru(prog:Program)(w:World)(x:Str)(t:Tok):(zbh prog w).is (.inr x) (.str x t)=true:=zyh x t
inductive V where
 |non|bl (b:Bool)|int (i:Int)|str (x:Str)|byt (b:Array UInt8)|flt (b:UInt64)|ref (a:Addr)|ty (n:String)
 deriving DecidableEq
def RelV:V->Value->Prop
 |.non,u=>u=Value.none
 |.bl b,u=>u=Value.bool b
 |.int i,u=>∃t,u=Value.int i t
 |.str x,u=>∃t,u=Value.str x t
 |.byt b,u=>∃t,u=Value.bytes b t
 |.flt b,u=>∃t,u=Value.float b t
 |.ref a,u=>u=Value.ref a
 |.ty n,u=>u=Value.type n
abbrev Vals:List V->List Value->Prop:=Paired RelV
theorem Vals.length{xs:List V}{us:List Value}(r:Vals xs us):xs.length=us.length:=Paired.length r
theorem Vals.get:∀{xs:List V}{us:List Value}{i:Nat}{x:V},Vals xs us->xs[i]?=some x->∃u,us[i]?=some u/\RelV x u
 |_,_,_,_,.nil,e=>by simp at e
 |_,_,0,_,.cons r _,e=>by simp at e;subst e;exact⟨_,rfl,r⟩
 |_,_,i+1,x,.cons _ t,e=>by
  obtain⟨u,h1,h2⟩:=Vals.get (i:=i) (x:=x) t (by simpa using e)
  exact⟨u,by simpa using h1,h2⟩
theorem Vals.set{x:V}{u:Value}(r:RelV x u):∀{xs:List V}{us:List Value}(i:Nat),Vals xs us->Vals (xs.set i x) (us.set i u)
 |_,_,_,.nil=>.nil
 |_,_,0,.cons _ t=>.cons r t
 |_,_,i+1,.cons q t=>.cons q (Vals.set r i t)
theorem Vals.append:∀{xs ys:List V}{us ws:List Value},Vals xs us->Vals ys ws->Vals (xs++ys) (us++ws)
 |_,_,_,_,.nil,s=>s
 |_,_,_,_,.cons r t,s=>.cons r (Vals.append t s)
theorem Vals.take:∀{xs:List V}{us:List Value}(n:Nat),Vals xs us->Vals (xs.take n) (us.take n)
 |_,_,0,_=>.nil
 |_,_,_+1,.nil=>.nil
 |_,_,n+1,.cons r t=>.cons r (Vals.take n t)
theorem Vals.drop:∀{xs:List V}{us:List Value}(n:Nat),Vals xs us->Vals (xs.drop n) (us.drop n)
 |_,_,0,r=>r
 |_,_,_+1,.nil=>.nil
 |_,_,n+1,.cons _ t=>Vals.drop n t
def RelO:Option V->Option Value->Prop
 |some v,some u=>RelV v u
 |none,none=>True
 |_,_=>False
def KV{κ:Type}:List (κ×V)->List (κ×Value)->Prop:=Paired λ(p:κ×V)(q:κ×Value)=>p.1=q.1/\RelV p.2 q.2
def kV:Key->V
 |.inl i=>.int i
 |.inr x=>.str x
inductive HO where
 |lst (xs:List V)
 |tup (xs:List V)
 |dK (kvs:List (Key×V))|dT (kvs:List (List Key×V))
 |set (S:Int->Bool) (n:Nat)
 |ins (C dx:Addr) (fs:List (Str×V))
 |own (x:Addr)
 |xd (fs:List (Str×V))
 |met (f x:Addr)
 |rng (lo hi:Int)
 |frz (o:Obj) (u:HO)
 |tbl (ps:Array Value)
 |ext (φ:Heap->Prop)
abbrev Hp:=Addr->Option HO
def upd(H:Hp)(a:Addr)(o:HO):Hp:=λb=>if b=a then some o else H b
theorem zac{H:Hp}{a:Addr}{o:HO}:upd H a o a=some o:=by unfold upd;rw[if_pos rfl]
theorem zai{H:Hp}{a b:Addr}{o:HO}(h:b≠a):upd H a o b=H b:=by unfold upd;rw[if_neg h]
theorem zf9{H:Hp}{a b:Addr}{o u:HO}(h:H a=some o)(h':H b=some u)(d:o≠u):a≠b:=by
 intro e;subst e;rw[h]at h';exact d (qfl.inj h')
theorem zah{H:Hp}{a b:Addr}{o:HO}(h:H a=some o)(h':H b=none):a≠b:=by
 intro e;subst e;rw[h]at h';cases h'
section
variable(P:Program)(w:World)
def ObjOk(H:Hp)(h:Heap)(a:Addr):HO->Prop
 |.lst xs=>xs.length<=sizeLine/\∃(its:List Value)(n:Nat),Vals xs its/\h.get? a=some { cls:=.type "list",data:=.seq its.toArray n }
 |.tup xs=>xs.length<=sizeLine/\∃its:List Value,Vals xs its/\IsTup h a its.toArray
 |.dK kvs=>kvs.length<=sizeLine/\(a == sysModules)=false/\∃vs,KV kvs vs/\h.DictOf (zbh P w) a vs
 |.dT kvs=>kvs.length<=sizeLine/\(a == sysModules)=false/\∃xs:List (List Key×Addr×Value),
   Paired (λ(p:List Key×V)(q:List Key×Addr×Value)=>p.1=q.1/\H q.2.1=some (.tup (p.1.map kV))/\RelV p.2 q.2.2) kvs xs ∧
   ∃o es ep,h.get? a=some o/\o.ExactDict/\o.data=.dict es ep/\es.toList=xs.map (entryOfKey (tupleKind (zbh P w)))/\(xs.map (·.1)).Nodup
 |.set S n=>h.SetOf (intKind P w) a S n
 |.ins C dx fs=>H dx=some (.own a)/\fs.length<=1000/\dx≠a/\h.get? a=some (qhn C dx) ∧
   ∃mA,h.Ns1 dx mA/\(∀f,RelO (fs.lookup f) (mA f))/\PySem.Within mA (fs.map (·.1))
 |.own _=>∃o,h.get? a=some o
 |.xd fs=>∃mA,h.Ns1 a mA/\∀f,RelO (fs.lookup f) (mA f)
 |.rng lo hi=>∃t u v,h.get? a=some { cls:=.type "range",data:=.fields #[.int lo t,.int hi u,.int 1 v] }
 |.frz o u=>h.get? a=some o/\ObjOk H h a u
 |.tbl ps=>h.get? a=some { cls:=.none,data:=.fields ps }
 |.met f x=>h.get? a=some (qjn (.ref f) (.ref x))
 |.ext φ=>φ h/\(∃o,h.get? a=some o)/\∀h1 h2:Heap,φ h1->(∀o,h1.get? a=some o->h2.get? a=some o)->φ h2
def HOk(H:Hp)(h:Heap):Prop:=∀a o,H a=some o->ObjOk P w H h a o
end
section
variable{P:Program}{w:World}{H H':Hp}{h h':Heap}{a:Addr}{o:HO}
theorem ObjOk.lt(x:ObjOk P w H h a o):a<h.objs.size:=by
 cases o with
 |lst xs=>obtain⟨_,_,_,_,e⟩:=x;exact Heap.lt_size e
 |tup xs=>obtain⟨_,_,_,p⟩:=x;exact p.lt
 |dK kvs=>obtain⟨_,_,_,_,o,_,_,e,_⟩:=x;exact Heap.lt_size e
 |dT kvs=>obtain⟨_,_,_,_,o,_,_,e,_⟩:=x;exact Heap.lt_size e
 |set S n=>obtain⟨o,_,_,_,e,_⟩:=x;exact Heap.lt_size e
 |ins C dx fs=>obtain⟨_,_,_,e,_⟩:=x;exact Heap.lt_size e
 |own y=>obtain⟨_,e⟩:=x;exact Heap.lt_size e
 |xd fs=>obtain⟨_,⟨_,_,_,e,_⟩,_⟩:=x;exact Heap.lt_size e
 |rng lo hi=>obtain⟨_,_,_,e⟩:=x;exact Heap.lt_size e
 |frz ob u=>obtain⟨e,_⟩:=x;exact Heap.lt_size e
 |tbl ps=>exact Heap.lt_size (show h.get? a=some _ from x)
 |met f y=>exact Heap.lt_size (show h.get? a=some _ from x)
 |ext φ=>obtain⟨_,⟨_,e⟩,_⟩:=x;exact Heap.lt_size e
theorem Paired.mapP{α β:Type}{F G:α->β->Prop}:∀{l₁:List α}{l₂:List β},Paired F l₁ l₂->(∀a b,F a b->G a b)->Paired G l₁ l₂
 |_,_,.nil,_=>.nil
 |_,_,.cons r t,f=>.cons (f _ _ r) (Paired.mapP t f)
theorem ObjOk.stay(x:ObjOk P w H h a o)(k:∀b u,(b=a\/H b=some (.own a))->h.get? b=some u->h'.get? b=some u)(ho:∀b,H b=some (.own a)->H' b=some (.own a))(ht:∀b xs,H b=some (.tup xs)->H' b=some (.tup xs)):ObjOk P w H' h' a o:=by
 induction o with
 |lst xs=>obtain⟨z,its,n,r,e⟩:=x;exact⟨z,its,n,r,k _ _ (.inl rfl) e⟩
 |tup xs=>obtain⟨z,its,r,ob,e,c⟩:=x;exact⟨z,its,r,ob,k _ _ (.inl rfl) e,c⟩
 |dK kvs=>obtain⟨z,y,vs,r,ob,es,ep,e,c⟩:=x;exact⟨z,y,vs,r,ob,es,ep,k _ _ (.inl rfl) e,c⟩
 |dT kvs=>
  obtain⟨z,y,xs,r,ob,es,ep,e,c⟩:=x
  exact⟨z,y,xs,Paired.mapP r λp q z=>⟨z.1,ht _ _ z.2.1,z.2.2⟩,ob,es,ep,k _ _ (.inl rfl) e,c⟩
 |set S n=>obtain⟨ob,es,ep,t,e,c⟩:=x;exact⟨ob,es,ep,t,k _ _ (.inl rfl) e,c⟩
 |ins C dx fs=>
  obtain⟨d,z,ne,e,mA,⟨od,es,ep,e2,c⟩,r⟩:=x
  exact⟨ho _ d,z,ne,k _ _ (.inl rfl) e,mA,⟨od,es,ep,k _ _ (.inr d) e2,c⟩,r⟩
 |own y=>obtain⟨ob,e⟩:=x;exact⟨ob,k _ _ (.inl rfl) e⟩
 |xd fs=>obtain⟨mA,⟨od,es,ep,e,c⟩,r⟩:=x;exact⟨mA,⟨od,es,ep,k _ _ (.inl rfl) e,c⟩,r⟩
 |rng lo hi=>obtain⟨t,u,v,e⟩:=x;exact⟨t,u,v,k _ _ (.inl rfl) e⟩
 |frz ob u ih=>obtain⟨e,q⟩:=x;exact⟨k _ _ (.inl rfl) e,ih q⟩
 |tbl ps=>
  have e:h.get? a=some { cls:=.none,data:=.fields ps }:=x
  show h'.get? a=some { cls:=.none,data:=.fields ps }
  exact k a _ (.inl rfl) e
 |met f y=>
  have e:h.get? a=some (qjn (.ref f) (.ref y)):=x
  show h'.get? a=some (qjn (.ref f) (.ref y))
  exact k a _ (.inl rfl) e
 |ext φ=>obtain⟨p,⟨o,e⟩,st⟩:=x;exact⟨st _ _ p λo q=>k _ _ (.inl rfl) q,⟨o,k _ _ (.inl rfl) e⟩,st⟩
theorem HOk.lt(x:HOk P w H h)(e:H a=some o):a<h.objs.size:=(x a o e).lt
theorem HOk.fresh(x:HOk P w H h)(e:h.objs.size<=a):H a=none:=by
 cases q:H a with
 |none=>rfl
 |some u=>exact absurd (qfn (x.lt q) e) (qhf _)
theorem HOk.kept(x:HOk P w H h)(k:∀b u,h.get? b=some u->h'.get? b=some u):HOk P w H h':=λa o e=>
 (x a o e).stay (λb u _ q=>k b u q) (λ_ q=>q) λ_ _ q=>q
theorem HOk.laid(x:HOk P w H h)(k:∀b u,h.get? b=some u->h'.get? b=some u)(hp:h.objs.size<=a)(new:ObjOk P w (upd H a o) h' a o):HOk P w (upd H a o) h':=λb u e=>by
 have hn:=x.fresh hp
 by_cases hb:b=a
 ·subst hb;rw[zac]at e;cases e;exact new
 ·rw[zai hb]at e
  exact (x b u e).stay (λc v _ q=>k c v q) (λc q=>by rw[zai (zah q hn)];exact q) λc xs q=>by rw[zai (zah q hn)];exact q
end
def Rd(H:Hp)(a:Addr)(u:HO):Prop:=H a=some u\/∃o,H a=some (.frz o u)
theorem Rd.ok{P:Program}{w:World}{H:Hp}{h:Heap}{a:Addr}{u:HO}(r:Rd H a u)(x:HOk P w H h):ObjOk P w H h a u:=by
 rcases r with r|⟨o,r⟩
 ·exact x a u r
 ·obtain⟨_,q⟩:=x a _ r
  exact q
def Mut:Option HO->Prop
 |some (.lst _)=>True
 |some (.dK _)=>True
 |some (.dT _)=>True
 |some (.set _ _)=>True
 |some (.ins _ _ _)=>True
 |some (.ext _)=>True
 |_=>False
section
variable{P:Program}{w:World}{H:Hp}{h h':Heap}{x e:Addr}{o':HO}
theorem HOk.write(ok:HOk P w H h)(mu:Mut (H x))(he:e=x\/H e=some (.own x))(k:∀b u,b≠e->h.get? b=some u->h'.get? b=some u)(heo:∃u,h'.get? e=some u)(new:ObjOk P w (upd H x o') h' x o'):HOk P w (upd H x o') h':=λb u q=>by
 have nown:∀c y,H c=some (.own y)->c≠x:=λc y r z=>by subst z;rw[r]at mu;exact mu
 have ntup:∀c xs,H c=some (.tup xs)->c≠x:=λc xs r z=>by subst z;rw[r]at mu;exact mu
 by_cases hb:b=x
 ·subst hb;rw[zac]at q;cases q;exact new
 ·rw[zai hb]at q
  by_cases hbe:b=e
  ·have q':H b=some (.own x):=by
    rcases he with z|z
    ·exact absurd (hbe.trans z) hb
    ·rw[hbe];exact z
   rw[q]at q';cases q'
   obtain⟨v,hv⟩:=heo
   exact⟨v,by rw[hbe];exact hv⟩
  ·refine (ok b u q).stay (λc v hc r=>k c v ?_ r) (λc r=>by rw[zai (nown c b r)];exact r) λc xs r=>by rw[zai (ntup c xs r)];exact r
   rcases hc with rfl|hc
   ·exact hbe
   ·rintro rfl
    rcases he with z|z
    ·exact nown c b hc z
    ·rw[hc]at z;cases z;exact hb rfl
end
structure Un(fs ex:List Addr)(H H':Hp)(h h':Heap):Prop where
 keep:∀b o,h.get? b=some o->H b=none->b ∉ fs->b ∉ ex->h'.get? b=some o
 slot:∀b o,h.get? b=some o->H b=none->b∈fs->b ∉ ex->∃sl,h'.get? b=some { o with slots:=sl }
 free:∀b o,h.get? b=some o->H b=none->b ∉ ex->H' b=none
 there:∀b o,h.get? b=some o->b ∉ ex->∃o',h'.get? b=some o'
 tups:∀b xs,H b=some (.tup xs)->H' b=some (.tup xs)
 frzs:∀b o u,H b=some (.frz o u)->H' b=some (.frz o u)
 tbls:∀b ps,H b=some (.tbl ps)->∃more,H' b=some (.tbl (ps++more))
section
variable{fs fs' ex ex':List Addr}{H H1 H2:Hp}{h h1 h2 h':Heap}{a x e:Addr}{o:HO}
theorem Un.any(u:Un fs ex H H1 h h1){b:Addr}{ob:Obj}(q:h.get? b=some ob)(n:H b=none)(hx:b ∉ ex):∃sl,h1.get? b=some { ob with slots:=sl }:=by
 by_cases hb:b∈fs
 ·exact u.slot b ob q n hb hx
 ·exact⟨ob.slots,u.keep b ob q n hb hx⟩
theorem Un.kept(k:∀b u,h.get? b=some u->h'.get? b=some u):Un fs ex H H h h':=
 ⟨λb ob q _ _ _=>k b ob q,λb ob q _ _ _=>⟨ob.slots,k b ob q⟩,λ_ _ _ n _=>n,λb ob q _=>⟨ob,k b ob q⟩,λ_ _ q=>q,λ_ _ _ q=>q,λ_ ps q=>⟨#[],by rw[q];simp⟩⟩
theorem Un.refl:Un fs ex H H h h:=Un.kept λ_ _ q=>q
theorem Un.laid(k:∀b u,h.get? b=some u->h'.get? b=some u)(hp:h.objs.size<=a)(hn:H a=none):Un fs ex H (upd H a o) h h' where
 keep:=λb u q _ _ _=>k b u q
 slot:=λb u q _ _ _=>⟨u.slots,k b u q⟩
 free:=λb u q n _=>by rw[zai (qf6 (qfn (Heap.lt_size q) hp))];exact n
 there:=λb u q _=>⟨u,k b u q⟩
 tups:=λb xs q=>by rw[zai (zah q hn)];exact q
 frzs:=λb u xs q=>by rw[zai (zah q hn)];exact q
 tbls:=λb ps q=>⟨#[],by rw[zai (zah q hn),q];simp⟩
theorem Un.write(mu:Mut (H x))(he:e=x\/H e=some (.own x))(k:∀b u,b≠e->h.get? b=some u->h'.get? b=some u)(heo:∃u,h'.get? e=some u):Un fs ex H (upd H x o) h h':=by
 have hx:∀b,H b=none->b≠x:=λb n z=>by subst z;rw[n]at mu;exact mu
 have hb:∀b,H b=none->b≠e:=λb n z=>by
  subst z
  rcases he with r|r
  ·exact hx b n r
  ·rw[n]at r;cases r
 have hm:∀b u,H b=some u->¬Mut (some u)->b≠x:=λb u q nm z=>by subst z;rw[q]at mu;exact nm mu
 refine⟨λb u q n _ _=>k b u (hb b n) q,λb u q n _ _=>⟨u.slots,k b u (hb b n) q⟩,λb u q n _=>by rw[zai (hx b n)];exact n,λb u q _=>?_,
  λb xs q=>by rw[zai (hm b _ q λz=>z)];exact q,λb u xs q=>by rw[zai (hm b _ q λz=>z)];exact q,λb ps q=>⟨#[],by rw[zai (hm b _ q λz=>z),q];simp⟩⟩
 by_cases hbe:b=e
 ·subst hbe;exact heo
 ·exact⟨u,k b u hbe q⟩
end
def trk(h:Heap)(H:Hp):List Addr:=(qgh h.objs.size).filter λa=>(H a).isSome
def zzt(h:Heap)(H:Hp):Heap:=PySem.W.hideAll h (trk h H)
theorem zyp(h:Heap)(H:Hp):(zzt h H).objs.size=h.objs.size:=PySem.W.hideAll_size _ _
theorem qbo{h:Heap}{H:Hp}{b:Addr}{o:Obj}(e:h.get? b=some o)(n:H b=none):(zzt h H).get? b=some o:=
 PySem.W.hideAll_get _ e λhm=>by
  have q:(H b).isSome=true:=(qg9.mp hm).2
  rw[n]at q;simp at q
theorem qej{h:Heap}{H:Hp}{b:Addr}{o:Obj}(e:(zzt h H).get? b=some o):h.get? b=some o/\H b=none:=by
 have e':h.get? b=some o:=PySem.W.of_hideAll (trk h H) e
 refine⟨e',?_⟩
 cases q:H b with
 |none=>rfl
 |some x=>
  have hm:b∈trk h H:=qg9.mpr ⟨qhl.mpr (Heap.lt_size e'),by simp[q]⟩
  have z:(zzt h H).get? b=none:=PySem.W.hideAll_none (trk h H) hm
  rw[z]at e;cases e
def zlq(g h:Heap)(L:Addr):List (Addr×Obj):=(qgh h.objs.size).filterMap λa=>if a=L\/(g.get? a).isSome=true then none else (h.get? a).map λo=>(a,o)
theorem zk2{g h:Heap}{L a:Addr}{o:Obj}(h1:a≠L)(h2:g.get? a=none)(h3:h.get? a=some o):(a,o)∈zlq g h L:=
 qis.mpr ⟨a,qhl.mpr (Heap.lt_size h3),by simp[h1,h2,h3]⟩
theorem zl7{g h:Heap}{L:Addr}{p:Addr×Obj}(hp:p∈zlq g h L):p.1≠L/\g.get? p.1=none/\h.get? p.1=some p.2:=by
 obtain⟨b,_,e⟩:=qis.mp hp
 split at e
 ·cases e
 ·rename_i hn
  cases q:h.get? b with
  |none=>rw[q]at e;simp at e
  |some u=>
   rw[q]at e
   simp only[qfy,qfl.injEq]at e
   subst e
   refine⟨λz=>hn (.inl z),?_,q⟩
   show g.get? b=none
   cases r:g.get? b with
   |none=>rfl
   |some v=>exact (hn (.inr (by simp[r]))).elim
theorem qbc{g h:Heap}{L:Addr}:News g L h (zlq g h L):=λp hp=>let ⟨a,b,c⟩:=zl7 hp;⟨c,a,b⟩
structure Mod(K:qfa)(mg:Str->Option Value)(base:Heap):Prop where
 kin:K.In base
 glob:base.Ns mainGlobals mg
 blt:∃mb,base.Ns builtinsNs mb/\∀x:Str,x≠"__name__"->mb x=bootBuiltins x
 nolimit:base.NoLimit
structure Cx where
 prog:Program
 w:World
 K:qfa
 mg:Str->Option Value
 base:Heap
 A:Around
 N:List Str
 s₀:Shared
 H₀:Hp
 env:Env
 outer:List Env
 stack:List Env
 ex:List Addr
 fn:Str->Bool
 calm:Bool
 pn:List (Addr×Obj)
 xe:Value->Shared->Prop
def frs(l:List Env):List Addr:=l.filterMap (·.frame)
abbrev Cx.fs(X:Cx):List Addr:=frs X.outer
def Vis(sc:Scope)(x:Str):Prop:=sc.names.lookup x=some .local\/sc.names.lookup x=some .cell\/sc.names.lookup x=some .free
def Loc(sc:Scope)(x:Str):Prop:=sc.names.lookup x=some .local\/sc.names.lookup x=some .cell
def Look(env:Env)(h:Heap)(m:Str->Option Value)(x:Str)(u:Value):Prop:=
 (env.kindOf x=some .local/\m x=some u)\/((env.kindOf x=some .cell\/env.kindOf x=some .free)/\∃c,env.cells.lookup x=some c/\h.IsCell c (some u))
structure Cx.Ok(X:Cx):Prop where
 mod:Mod X.K X.mg X.base
 kind:X.env.scope.kind=.function
 glob:X.env.globals=mainGlobals
 blt:X.env.builtins=builtinsNs
 above:X.s₀.heap.objs.size<=X.env.locals
 inj:∀x y c,X.env.cells.lookup x=some c->X.env.cells.lookup y=some c->x=y
 has:∀x,(X.env.kindOf x=some .cell\/X.env.kindOf x=some .free)->∃c,X.env.cells.lookup x=some c
 cab:∀x c,X.fn x=true->X.env.cells.lookup x=some c->X.s₀.heap.objs.size<=c
 hd:X.calm=true->X.A.handled=none
 frames:X.A.frames=some X.stack
 stk:X.stack=X.outer\/(X.stack=X.env::X.outer/\X.env.frame=some X.env.locals)
 exf:∀b∈X.ex,b≠X.env.locals/\∀x c,X.env.cells.lookup x=some c->c≠b
 bs:∀b o,X.base.get? b=some o->X.s₀.heap.get? b=some o/\X.H₀ b=none
 bsz:X.base.objs.size<=X.s₀.heap.objs.size
 noex:∀b o,X.base.get? b=some o->b ∉ X.ex
 exfs:∀b∈X.ex,b ∉ X.fs
 funs:X.s₀.heap.FunFrames X.base X.outer
 frf:∀b∈X.fs,X.H₀ b=none
structure Inv(X:Cx)(pins:List (Addr×Obj))(σ:List (Option V))(H:Hp)(s:Shared):Prop where
 ok:X.Ok
 os:s.os=X.s₀.os
 bare:AllBare s.gens
 base:Un X.fs X.ex X.H₀ H X.s₀.heap s.heap
 loc:∃m,s.heap.Ns X.env.locals m/\∀(i:Nat)(x:Str)(v:V),X.N[i]?=some x->σ[i]?=some (some v)->Vis X.env.scope x->∃u,RelV v u/\Look X.env s.heap m x u
 cell:∀x c,X.env.cells.lookup x=some c->∃v,s.heap.IsCell c v
 free:H X.env.locals=none
 freeC:∀x c,X.env.cells.lookup x=some c->H c=none
 pin:∀p∈X.pn++pins,s.heap.get? p.1=some p.2/\H p.1=none/\p.1≠X.env.locals/\p.1 ∉ X.fs/\∀v,p.2.data≠.cell v
 hok:HOk X.prog X.w H s.heap
 len:σ.length=X.N.length
section
variable{X:Cx}{pins:List (Addr×Obj)}{σ:List (Option V)}{H H':Hp}{s:Shared}{h':Heap}
theorem Cx.Ok.nofr(ok:X.Ok){b:Addr}{o:Obj}(e:X.base.get? b=some o):b ∉ X.fs:=λhb=>by
 have:=(ok.funs.mem hb).1
 rw[e]at this;cases this
theorem Inv.bs(I:Inv X pins σ H s):∀b o,X.base.get? b=some o->s.heap.get? b=some o/\H b=none:=λb o e=>
 ⟨I.base.keep b o (I.ok.bs b o e).1 (I.ok.bs b o e).2 (I.ok.nofr e) (I.ok.noex b o e),I.base.free b o (I.ok.bs b o e).1 (I.ok.bs b o e).2 (I.ok.noex b o e)⟩
theorem Inv.bk(I:Inv X pins σ H s):∀b o,X.base.get? b=some o->s.heap.get? b=some o:=λb o e=>(I.bs b o e).1
theorem Inv.mod(I:Inv X pins σ H s):Mod X.K X.mg X.base:=I.ok.mod
theorem Inv.kIn(I:Inv X pins σ H s):X.K.In s.heap:=I.ok.mod.kin.keeps I.bk
theorem Inv.fr(I:Inv X pins σ H s):∃m,Fr X.base X.env.locals s.heap m:=
 let ⟨m,hn,_⟩:=I.loc
 ⟨m,hn,I.bk,qgn I.ok.bsz I.ok.above⟩
theorem Inv.lt(I:Inv X pins σ H s):X.env.locals<s.heap.objs.size:=let ⟨_,hn,_⟩:=I.loc;hn.lt
theorem Inv.sz(I:Inv X pins σ H s):X.s₀.heap.objs.size<=s.heap.objs.size:=qgn I.ok.above (qkq I.lt)
theorem Inv.nofs(I:Inv X pins σ H s){a:Addr}(h:s.heap.objs.size<=a):a ∉ X.fs:=λhb=>by
 obtain⟨_,o,ho,_⟩:=I.ok.funs.mem hb
 exact absurd (qfn (Heap.lt_size ho) (qgn I.sz h)) (qhf _)
theorem Inv.cne(I:Inv X pins σ H s):∀x c,X.env.cells.lookup x=some c->c≠X.env.locals:=λx c e z=>by
 obtain⟨v,o,ho,hd⟩:=I.cell x c e
 obtain⟨m,⟨o',es,ep,ho',hd',_⟩,_⟩:=I.loc
 rw[z,ho']at ho;cases ho;rw[hd']at hd;cases hd
theorem Inv.funs(I:Inv X pins σ H s):s.heap.FunFrames X.base X.outer:=by
 have all:∀(l:List Env),(∀b∈frs l,b∈X.fs)->X.s₀.heap.FunFrames X.base l->s.heap.FunFrames X.base l:=by
  intro l
  induction l with
  |nil=>intro _ _;trivial
  |cons env r ih=>
   intro hs hl
   obtain⟨hk,⟨L,o,hf,hn,ho,hd⟩,hr⟩:=hl
   have hL:L∈X.fs:=hs L (by unfold frs;rw[qik,hf];exact qgu)
   obtain⟨sl,e⟩:=I.base.slot L o ho (I.ok.frf L hL) hL λz=>I.ok.exfs L z hL
   exact⟨hk,⟨L,_,hf,hn,e,hd⟩,ih (λb hb=>hs b (by unfold frs;rw[qik,hf];exact qf8 _ hb)) hr⟩
 exact all X.outer (λ_ hb=>hb) I.ok.funs
theorem Inv.stack(I:Inv X pins σ H s):s.heap.FunFrames X.base X.stack:=by
 rcases I.ok.stk with e|⟨e,hf⟩
 ·rw[e];exact I.funs
 ·rw[e]
  obtain⟨m,hn,_⟩:=I.loc
  refine .cons (by rw[I.ok.kind];decide) hf hn ?_ I.funs
  exact Heap.get?_none_of_le (qgn I.ok.bsz I.ok.above)
theorem Inv.stkSub(I:Inv X pins σ H s):∀b∈frs X.stack,b∈X.env.locals::X.fs:=λb hb=>by
 rcases I.ok.stk with e|⟨e,hf⟩
 ·rw[e]at hb;exact qf8 _ hb
 ·rw[e]at hb
  unfold frs at hb
  rw[qik,hf]at hb
  exact hb
theorem Inv.stkFree(I:Inv X pins σ H s):∀b∈frs X.stack,H b=none:=λb hb=>by
 rcases qfo.mp (I.stkSub b hb) with e|hb
 ·rw[e];exact I.free
 ·obtain⟨_,o,ho,_⟩:=I.ok.funs.mem hb
  exact I.base.free b o ho (I.ok.frf b hb) λz=>I.ok.exfs b z hb
theorem Inv.step{g':Array GenState}{t':Nat}{d':Drawn}{ch:List Addr}(I:Inv X pins σ H s)(hch:∀b∈ch,(b∈X.ex\/X.s₀.heap.objs.size<=b)/\b≠X.env.locals/\(∀x c,X.env.cells.lookup x=some c->c≠b)/\∀p∈X.pn++pins,p.1≠b)(keep:∀b o,b≠X.env.locals->b ∉ X.fs->b ∉ ch->s.heap.get? b=some o->H b=none->h'.get? b=some o)(slot:∀b o,b≠X.env.locals->b∈X.fs->b ∉ ch->s.heap.get? b=some o->H b=none->∃sl,h'.get? b=some { o with slots:=sl })(free:∀b o,b ∉ ch->s.heap.get? b=some o->H b=none->H' b=none)(there:∀b o,b ∉ ch->s.heap.get? b=some o->∃o',h'.get? b=some o')(tups:∀b xs,H b=some (.tup xs)->H' b=some (.tup xs))(frzs:∀b o u,H b=some (.frz o u)->H' b=some (.frz o u))(tbls:∀b ps,H b=some (.tbl ps)->∃more,H' b=some (.tbl (ps++more)))(ns:∀m,s.heap.Ns X.env.locals m->h'.Ns X.env.locals m)(hok:HOk X.prog X.w H' h')(hg:AllBare g') :
  Inv X pins σ H' { s with heap:=h',gens:=g',drawn:=d',toks:=t' }:=by
 have neL:∀b o,X.s₀.heap.get? b=some o->b≠X.env.locals:=λb o e=>qf6 (qfn (Heap.lt_size e) I.ok.above)
 have neC:∀b o,X.s₀.heap.get? b=some o->b ∉ X.ex->b ∉ ch:=λb o e hx hb=>by
  rcases (hch b hb).1 with z|z
  ·exact hx z
  ·exact absurd (qfn (Heap.lt_size e) z) (qhf _)
 have cellK:∀x c,X.env.cells.lookup x=some c->∀v,s.heap.IsCell c v->h'.IsCell c v:=λx c e v ⟨o,ho,hd⟩=>by
  have nch:c ∉ ch:=λz=>(hch c z).2.2.1 x c e rfl
  by_cases hc:c∈X.fs
  ·obtain⟨sl,q⟩:=slot c o (I.cne x c e) hc nch ho (I.freeC x c e)
   exact⟨_,q,hd⟩
  ·exact⟨o,keep c o (I.cne x c e) hc nch ho (I.freeC x c e),hd⟩
 refine⟨I.ok,I.os,hg,⟨λb o e n hb hx=>?_,λb o e n hb hx=>?_,λb o e n hx=>?_,λb o e hx=>?_,λb xs e=>tups b xs (I.base.tups b xs e),λb o xs e=>frzs b o xs (I.base.frzs b o xs e),λb ps e=>?_⟩,?_,λx c e=>?_,?_,λx c e=>?_,λp hp=>?_,hok,I.len⟩
 ·exact keep b o (neL b o e) hb (neC b o e hx) (I.base.keep b o e n hb hx) (I.base.free b o e n hx)
 ·obtain⟨sl,e1⟩:=I.base.slot b o e n hb hx
  obtain⟨sl',e2⟩:=slot b _ (neL b o e) hb (neC b o e hx) e1 (I.base.free b o e n hx)
  exact⟨sl',e2⟩
 ·obtain⟨o',e1⟩:=I.base.there b o e hx
  exact free b o' (neC b o e hx) e1 (I.base.free b o e n hx)
 ·obtain⟨o',e1⟩:=I.base.there b o e hx
  exact there b o' (neC b o e hx) e1
 ·obtain⟨m1,e1⟩:=I.base.tbls b ps e
  obtain⟨m2,e2⟩:=tbls b _ e1
  exact⟨m1++m2,by rw[e2,Array.append_assoc]⟩
 ·obtain⟨m,hn,hl⟩:=I.loc
  refine⟨m,ns m hn,λi x v e1 e2 e3=>?_⟩
  obtain⟨u,r,l⟩:=hl i x v e1 e2 e3
  refine⟨u,r,?_⟩
  rcases l with l|⟨k,c,e,z⟩
  ·exact .inl l
  ·exact .inr ⟨k,c,e,cellK x c e _ z⟩
 ·obtain⟨v,z⟩:=I.cell x c e
  exact⟨v,cellK x c e v z⟩
 ·obtain⟨m,⟨o,_,_,ho,_⟩,_⟩:=I.loc
  exact free _ o (λz=>(hch _ z).2.1 rfl) ho I.free
 ·obtain⟨v,o,ho,hd⟩:=I.cell x c e
  exact free c o (λz=>(hch c z).2.2.1 x c e rfl) ho (I.freeC x c e)
 ·obtain⟨e,n,ne,nf,d⟩:=I.pin p hp
  have nch:p.1 ∉ ch:=λz=>(hch p.1 z).2.2.2 p hp rfl
  exact⟨keep p.1 p.2 ne nf nch e n,free p.1 p.2 nch e n,ne,nf,d⟩
theorem Inv.un{t':Nat}(I:Inv X pins σ H s)(u:Un X.fs [] H H' s.heap h')(hok:HOk X.prog X.w H' h'):Inv X pins σ H' { s with heap:=h',toks:=t' }:=by
 obtain⟨m,⟨o,es,ep,ho,r⟩,_⟩:=id I.loc
 obtain⟨sl,hL⟩:=u.any ho I.free (by simp)
 exact I.step (g':=s.gens) (d':=s.drawn) (ch:=[]) (λ_ z=>nomatch z) (λb o _ hb _ e n=>u.keep b o e n hb (by simp)) (λb o _ hb _ e n=>u.slot b o e n hb (by simp)) (λb o _ e n=>u.free b o e n (by simp)) (λb o _ e=>u.there b o e (by simp)) u.tups u.frzs u.tbls (λm' hm=>by
  obtain⟨o',es',ep',ho',r'⟩:=hm
  rw[ho]at ho';cases ho'
  exact⟨_,es',ep',hL,r'⟩) hok I.bare
theorem Inv.call{g':Array GenState}{t':Nat}{d':Drawn}{ch:List Addr}(I:Inv X pins σ H s)(u:Un (frs X.stack) ch H H' s.heap h')(hok:HOk X.prog X.w H' h')(hg:AllBare g')(hch:∀b∈ch,(b∈X.ex\/X.s₀.heap.objs.size<=b)/\b≠X.env.locals/\(∀x c,X.env.cells.lookup x=some c->c≠b)/\∀p∈X.pn++pins,p.1≠b) :
  Inv X pins σ H' { s with heap:=h',gens:=g',drawn:=d',toks:=t' }:=by
 obtain⟨m,⟨o,es,ep,ho,r⟩,_⟩:=id I.loc
 obtain⟨sl,hL⟩:=u.any ho I.free λz=>(hch _ z).2.1 rfl
 exact I.step (ch:=ch) hch (λb o hL hb hc e n=>u.keep b o e n (λz=>(qfo.mp (I.stkSub b z)).elim hL hb) hc) (λb o _ _ hc e n=>u.any e n hc) (λb o hc e n=>u.free b o e n hc) (λb o hc e=>u.there b o e hc) u.tups u.frzs u.tbls (λm' hm=>by
  obtain⟨o',es',ep',ho',r'⟩:=hm
  rw[ho]at ho';cases ho'
  exact⟨_,es',ep',hL,r'⟩) hok hg
theorem Inv.turned{t':Nat}{it:Addr}(I:Inv X pins σ H s)(k:∀b o,b≠it->s.heap.get? b=some o->h'.get? b=some o)(hn:H it=none)(hL:it≠X.env.locals)(h1:it∈X.ex\/X.s₀.heap.objs.size<=it)(h2:∀x c,X.env.cells.lookup x=some c->c≠it)(h3:∀p∈X.pn++pins,p.1≠it):Inv X pins σ H { s with heap:=h',toks:=t' }:=by
 have nit:∀b u,H b=some u->b≠it:=λb u e z=>by rw[z,hn]at e;cases e
 refine I.step (g':=s.gens) (d':=s.drawn) (ch:=[it]) (λb hb=>?_) (λb o _ _ hc e _=>k b o (λz=>hc (by simp[z])) e) (λb o _ _ hc e _=>⟨o.slots,k b o (λz=>hc (by simp[z])) e⟩) (λ_ _ _ _ n=>n)
  (λb o hc e=>⟨o,k b o (λz=>hc (by simp[z])) e⟩) (λ_ _ e=>e) (λ_ _ _ e=>e) (λb ps e=>⟨#[],by rw[e];simp⟩) (λm hm=>?_) (λb u e=>?_) I.bare
 ·have e:b=it:=by simpa using hb
  subst e
  exact⟨h1,hL,h2,h3⟩
 ·obtain⟨o,es,ep,ho,r⟩:=hm
  exact⟨o,es,ep,k _ o (Ne.symm hL) ho,r⟩
 ·refine (I.hok b u e).stay (λc v hc q=>k c v ?_ q) (λ_ q=>q) λ_ _ q=>q
  rcases hc with z|z
  ·rw[z];exact nit b u e
  ·exact nit c _ z
theorem Inv.tok(I:Inv X pins σ H s)(t:Nat):Inv X pins σ H { s with toks:=t }:=I.un (h':=s.heap) (t':=t) Un.refl I.hok
theorem Inv.kept{t':Nat}(I:Inv X pins σ H s)(k:∀b u,s.heap.get? b=some u->h'.get? b=some u):Inv X pins σ H { s with heap:=h',toks:=t' }:=I.un (Un.kept k) (I.hok.kept k)
theorem Inv.laid{a:Addr}{o:HO}{t':Nat}(I:Inv X pins σ H s)(k:∀b u,s.heap.get? b=some u->h'.get? b=some u)(hp:s.heap.objs.size<=a)(new:ObjOk X.prog X.w (upd H a o) h' a o) :
  Inv X pins σ (upd H a o) { s with heap:=h',toks:=t' }:=I.un (Un.laid k hp (I.hok.fresh hp)) (I.hok.laid k hp new)
theorem Inv.write{x e:Addr}{o:HO}{t':Nat}(I:Inv X pins σ H s)(mu:Mut (H x))(he:e=x\/H e=some (.own x))(k:∀b u,b≠e->s.heap.get? b=some u->h'.get? b=some u)(heo:∃u,h'.get? e=some u)(new:ObjOk X.prog X.w (upd H x o) h' x o):Inv X pins σ (upd H x o) { s with heap:=h',toks:=t' }:=I.un (Un.write mu he k heo) (I.hok.write mu he k heo new)
theorem Inv.weak{σ':List (Option V)}(I:Inv X pins σ H s)(hl:σ'.length=σ.length)(w:∀(i:Nat) v,σ'[i]?=some (some v)->σ[i]?=some (some v)):Inv X pins σ' H s:=
 ⟨I.ok,I.os,I.bare,I.base,let ⟨m,hn,hl'⟩:=I.loc;⟨m,hn,λi x v e1 e2 e3=>hl' i x v e1 (w i v e2) e3⟩,I.cell,I.free,I.freeC,I.pin,I.hok,hl.trans I.len⟩
theorem Inv.pins_of{pins':List (Addr×Obj)}(I:Inv X pins σ H s)(h:∀p∈pins',s.heap.get? p.1=some p.2/\H p.1=none/\p.1≠X.env.locals/\p.1 ∉ X.fs/\∀v,p.2.data≠.cell v):Inv X pins' σ H s:=
 ⟨I.ok,I.os,I.bare,I.base,I.loc,I.cell,I.free,I.freeC,λp hp=>(qfj.mp hp).elim (λz=>I.pin p (qgq _ z)) (h p),I.hok,I.len⟩
theorem znz{N:List Str}(hN:N.Nodup){i j:Nat}{x:Str}(a:N[i]?=some x)(b:N[j]?=some x):i=j:=by
 obtain⟨h1,e1⟩:=qfc.mp a
 obtain⟨h2,e2⟩:=qfc.mp b
 exact (qjw hN).mp (e1.trans e2.symm)
theorem zka{M:Model}{A:Around}{E:Value->Shared->Prop}{i:Nat}{x:Str}{v:V}{u:Value}{Q:Unit->Shared->Prop}(I:Inv X pins σ H s)(hN:X.N.Nodup)(hi:X.N[i]?=some x)(hx:Loc X.env.scope x)(r:RelV v u)(h:∀s',Inv X pins (σ.set i (some v)) H s'->(∃a,Heap.SameBut a s.heap s'.heap/\(a=X.env.locals\/X.env.cells.lookup x=some a))->Q () s')(hf:X.fn x=true\/X.env.scope.names.lookup x=some .local:=by first|exact .inl rfl|exact .inr rfl|assumption):wpAny M A (storeName X.env x u) Q E s:=by
 obtain⟨m,hn,hl⟩:=id I.loc
 have hcls:(X.env.scope.kind == .class || (X.env.scope.kind == .module && X.env.locals != X.env.globals))=false:=by rw[I.ok.kind];rfl
 have hiσ:i<σ.length:=by rw[I.len];exact (qfc.mp hi).1
 have cne:=I.cne
 have tracked:∀{a:Addr}{h':Heap},(∃o,s.heap.get? a=some o/\H a=none)->Heap.SameBut a s.heap h'->HOk X.prog X.w H h':=λ{a h'} ha hs b ob e=>by
  obtain⟨_,_,hfree⟩:=ha
  refine (I.hok b ob e).stay (λc w' hc q=>(hs.2 c ?_).trans q) (λ_ q=>q) λ_ _ q=>q
  rintro rfl
  rcases hc with rfl|hc
  ·rw[hfree]at e;cases e
  ·rw[hfree]at hc;cases hc
 rcases hx with hk|hk
 ·refine wpAny_storeName_local hk hn (λh' hn' hs=>?_) hcls
  obtain⟨oL,_,_,hoL,_⟩:=id hn
  refine h _ ⟨I.ok,I.os,I.bare,⟨λb o e n hb hx=>?_,λb o e n hb hx=>?_,I.base.free,λb o e hx=>?_,I.base.tups,I.base.frzs,I.base.tbls⟩,⟨_,hn',λj y v' e1 e2 e3=>?_⟩,λy c e=>?_,I.free,I.freeC,λp hp=>?_,tracked ⟨oL,hoL,I.free⟩ hs,by simpa using I.len⟩ ⟨_,hs,.inl rfl⟩
  ·exact (hs.2 b (qf6 (qfn (Heap.lt_size e) I.ok.above))).trans (I.base.keep b o e n hb hx)
  ·obtain⟨sl,e1⟩:=I.base.slot b o e n hb hx
   exact⟨sl,(hs.2 b (qf6 (qfn (Heap.lt_size e) I.ok.above))).trans e1⟩
  ·obtain⟨o',e1⟩:=I.base.there b o e hx
   exact⟨o',(hs.2 b (qf6 (qfn (Heap.lt_size e) I.ok.above))).trans e1⟩
  ·by_cases hj:j=i
   ·subst hj
    rw[hi]at e1;cases e1
    rw[qiv hiσ]at e2
    cases e2
    exact⟨u,r,.inl ⟨hk,by simp⟩⟩
   ·rw[qi8 (Ne.symm hj)]at e2
    obtain⟨u',r',q⟩:=hl j y v' e1 e2 e3
    refine⟨u',r',?_⟩
    rcases q with ⟨k,e⟩|⟨k,c,e,z⟩
    ·refine .inl ⟨k,?_⟩
     have:y≠x:=λe=>hj (znz hN e1 (e▸hi))
     simp[this,e]
    ·exact .inr ⟨k,c,e,z.sameBut hs (cne y c e)⟩
  ·obtain⟨w',z⟩:=I.cell y c e
   exact⟨w',z.sameBut hs (cne y c e)⟩
  ·obtain⟨e,n,ne,nf,d⟩:=I.pin p hp
   exact⟨(hs.2 p.1 ne).trans e,n,ne,nf,d⟩
 ·have hfn:X.fn x=true:=by
   rcases hf with z|z
   ·exact z
   ·rw[z]at hk;cases hk
  obtain⟨c,hc⟩:=I.ok.has x (.inl hk)
  obtain⟨w',z⟩:=I.cell x c hc
  refine wpAny_storeName_cell I.ok.kind hk hc z (λh' hc' hs=>?_)
  obtain⟨oc,hoc,hocd⟩:=id z
  refine h { s with heap:=h' } ⟨I.ok,I.os,I.bare,⟨λb o e n hb hx=>?_,λb o e n hb hx=>?_,I.base.free,λb o e hx=>?_,I.base.tups,I.base.frzs,I.base.tbls⟩,⟨m,hn.sameBut hs (Ne.symm (cne x c hc)),λj y v' e1 e2 e3=>?_⟩,λy c' e=>?_,I.free,I.freeC,λp hp=>?_,tracked ⟨oc,hoc,I.freeC x c hc⟩ hs,by simpa using I.len⟩ ⟨c,hs,.inr hc⟩
  ·exact (hs.2 b (qf6 (qfn (Heap.lt_size e) (I.ok.cab x c hfn hc)))).trans (I.base.keep b o e n hb hx)
  ·obtain⟨sl,e1⟩:=I.base.slot b o e n hb hx
   exact⟨sl,(hs.2 b (qf6 (qfn (Heap.lt_size e) (I.ok.cab x c hfn hc)))).trans e1⟩
  ·obtain⟨o',e1⟩:=I.base.there b o e hx
   exact⟨o',(hs.2 b (qf6 (qfn (Heap.lt_size e) (I.ok.cab x c hfn hc)))).trans e1⟩
  ·by_cases hj:j=i
   ·subst hj
    rw[hi]at e1;cases e1
    rw[qiv hiσ]at e2
    cases e2
    exact⟨u,r,.inr ⟨.inl hk,c,hc,hc'⟩⟩
   ·rw[qi8 (Ne.symm hj)]at e2
    obtain⟨u',r',q⟩:=hl j y v' e1 e2 e3
    refine⟨u',r',?_⟩
    rcases q with q|⟨k,c',e,z'⟩
    ·exact .inl q
    ·refine .inr ⟨k,c',e,z'.sameBut hs ?_⟩
     rintro rfl
     exact hj (znz hN e1 (I.ok.inj _ _ _ e hc▸hi))
  ·by_cases hcc:c'=c
   ·subst hcc;exact⟨_,hc'⟩
   ·obtain⟨w2,z2⟩:=I.cell y c' e
    exact⟨w2,z2.sameBut hs hcc⟩
  ·obtain⟨e,n,ne,nf,d⟩:=I.pin p hp
   refine⟨(hs.2 p.1 ?_).trans e,n,ne,nf,d⟩
   intro q
   rw[q,hoc]at e
   have q':oc=p.2:=qfl.inj e
   exact d w' (by rw[<-q'];exact hocd)
theorem znl{M:Model}{A:Around}{E:Value->Shared->Prop}{i:Nat}{x:Str}{v:V}{u:Value}{Q:Unit->Shared->Prop}(I:Inv X pins σ H s)(hN:X.N.Nodup)(hi:X.N[i]?=some x)(hx:Loc X.env.scope x)(r:RelV v u)(h:∀s',Inv X pins (σ.set i (some v)) H s'->Q () s')(hf:X.fn x=true\/X.env.scope.names.lookup x=some .local:=by first|exact .inl rfl|exact .inr rfl|assumption):wpAny M A (storeName X.env x u) Q E s:=
 zka I hN hi hx r (λs' I' _=>h s' I') hf
theorem Inv.call'{s':Shared}{ch:List Addr}(I:Inv X pins σ H s)(ho:s'.os=s.os)(u:Un (frs X.stack) ch H H' s.heap s'.heap)(hok:HOk X.prog X.w H' s'.heap)(hg:AllBare s'.gens)(hch:∀b∈ch,(b∈X.ex\/X.s₀.heap.objs.size<=b)/\b≠X.env.locals/\(∀x c,X.env.cells.lookup x=some c->c≠b)/\∀p∈X.pn++pins,p.1≠b):Inv X pins σ H' s':=by
 obtain⟨h',g',d',t',o'⟩:=s'
 have e:o'=s.os:=ho
 subst e
 exact I.call (g':=g') (t':=t') (d':=d') u hok hg hch
end
abbrev XK:=Value->Option Addr->Hp->Prop
abbrev St:=List (Option V)
abbrev VK:=V->Hp->Prop
abbrev TE:=St->Hp->VK->Prop
abbrev TT:=St->Hp->(Bool->Hp->Prop)->Prop
abbrev TA:=St->Hp->(List V->Hp->Prop)->Prop
structure qcp where
 nx:St->Hp->Prop
 rt:VK
 bk:St->Hp->Prop:=λ_ _=>False
 ct:St->Hp->Prop:=λ_ _=>False
abbrev TS:=qcp->St->Hp->Prop
def EP(X:Cx)(pins:List (Addr×Obj))(σ:St)(Q:VK)(u:Value)(s':Shared):Prop:=∃v H',Inv X pins σ H' s'/\RelV v u/\Q v H'
def TP(X:Cx)(pins:List (Addr×Obj))(σ:St)(Q:Bool->Hp->Prop)(b:Bool)(s':Shared):Prop:=∃H',Inv X pins σ H' s'/\Q b H'
def AP(X:Cx)(pins:List (Addr×Obj))(σ:St)(Q:List V->Hp->Prop)(us:List Value)(s':Shared):Prop:=∃vs H',Inv X pins σ H' s'/\Vals vs us/\Q vs H'
def SP(X:Cx)(pins:List (Addr×Obj))(D:qcp)(f:Flow)(s':Shared):Prop:=
 match f with
 |.next=>∃σ' H',Inv X pins σ' H' s'/\D.nx σ' H'
 |.brk=>∃σ' H',Inv X pins σ' H' s'/\D.bk σ' H'
 |.cont=>∃σ' H',Inv X pins σ' H' s'/\D.ct σ' H'
 |.ret u=>∃v σ' H',Inv X pins σ' H' s'/\RelV v u/\D.rt v H'
def PE(X:Cx)(e:Expr)(t:TE):Prop:=
 ∀(pins:List (Addr×Obj))(s:Shared)(σ:St)(H:Hp)(Q:VK),Inv X pins σ H s->t σ H Q->wpAny (model X.prog X.w) X.A (eval e X.env) (EP X pins σ Q) X.xe s
def PT(X:Cx)(e:Expr)(t:TT):Prop:=
 ∀(pins:List (Addr×Obj))(s:Shared)(σ:St)(H:Hp)(Q:Bool->Hp->Prop),Inv X pins σ H s->t σ H Q->wpAny (model X.prog X.w) X.A (isTrue e X.env (eval e X.env)) (TP X pins σ Q) X.xe s
def PW(X:Cx)(e:Expr)(t:TT):Prop:=
 ∀(whole:Sem Value)(pins:List (Addr×Obj))(s:Shared)(σ:St)(H:Hp)(Q:Bool->Hp->Prop),Inv X pins σ H s->t σ H Q->wpAny (model X.prog X.w) X.A (isTrue e X.env whole) (TP X pins σ Q) X.xe s
theorem PW.pt{X:Cx}{e:Expr}{t:TT}(h:PW X e t):PT X e t:=h _
def PA(X:Cx)(es:List Expr)(t:TA):Prop:=
 ∀(pos:Pos)(pins:List (Addr×Obj))(s:Shared)(σ:St)(H:Hp)(Q:List V->Hp->Prop),Inv X pins σ H s->t σ H Q->wpAny (model X.prog X.w) X.A (spliced (backTo pos (starEach es X.env))) (AP X pins σ Q) X.xe s
def PS(X:Cx)(st:Stmt)(t:TS):Prop:=
 ∀(pins:List (Addr×Obj))(s:Shared)(σ:St)(H:Hp)(D:qcp),Inv X pins σ H s->t D σ H->wpAny (model X.prog X.w) X.A (exec st X.env) (SP X pins D) X.xe s
def PSs(X:Cx)(st:List Stmt)(t:TS):Prop:=
 ∀(pins:List (Addr×Obj))(s:Shared)(σ:St)(H:Hp)(D:qcp),Inv X pins σ H s->t D σ H->wpAny (model X.prog X.w) X.A (execs st X.env) (SP X pins D) X.xe s
theorem thn{α:Type}{t:Sem α}{Q Q':α->Shared->Prop}{M:Model}{A:Around}{E:Value->Shared->Prop}{s:Shared}(h:wpAny M A t Q E s)(hQ:∀a s,Q a s->Q' a s):wpAny M A t Q' E s:=wpAny_mono h hQ λ_ _ x=>x
section
variable{X:Cx}
theorem bin{a b:Expr}{ta tb:TE}(ha:PE X a ta)(hb:PE X b tb){pins:List (Addr×Obj)}{s:Shared}{σ:St}{H:Hp}{R:V->V->Hp->Prop}(I:Inv X pins σ H s)(h:ta σ H λx H1=>tb σ H1 λy H2=>R x y H2){α:Type}{Q:α->Shared->Prop}{f:Value->Value->Sem α}(hf:∀v u s2 x y H2,Inv X pins σ H2 s2->RelV x v->RelV y u->R x y H2->wpAny (model X.prog X.w) X.A (f v u) Q X.xe s2) :
  wpAny (model X.prog X.w) X.A (eval a X.env) (λv s₁=>wpAny (model X.prog X.w) X.A (eval b X.env) (λu s₂=>wpAny (model X.prog X.w) X.A (f v u) Q X.xe s₂) X.xe s₁) X.xe s:=by
 refine thn (ha pins s σ H _ I h) λv s1 ⟨x,H1,I1,r1,q1⟩=>?_
 refine thn (hb pins s1 σ H1 _ I1 q1) λu s2 ⟨y,H2,I2,r2,q2⟩=>?_
 exact hf v u s2 x y H2 I2 r1 r2 q2
def tVar(i:Nat):TE:=λσ H Q=>∃v,σ[i]?=some (some v)/\Q v H
def tC(v:V):TE:=λ_ H Q=>Q v H
theorem qca{i:Nat}{x:Str}{pos:Pos}(hN:X.N[i]?=some x)(hv:Vis X.env.scope x)(hd:(x == ("__debug__":Str))=false:=by decide)(hcd:(x == ("__classdict__":Str))=false:=by decide):PE X (.Name x pos) (tVar i):=by
 intro pins s σ H Q I h
 obtain⟨v,e,h⟩:=h
 obtain⟨m,hn,hl⟩:=I.loc
 obtain⟨u,r,l⟩:=hl i x v hN e hv
 have fin:EP X pins σ Q u s:=⟨v,H,I,r,h⟩
 rcases l with ⟨hk,hm⟩|⟨hk,c,hc,hcell⟩
 ·exact wpAny_Name (wpAny_loadName_local I.ok.kind hk hn hm fin) hd
 ·rcases hk with hk|hk
  ·exact wpAny_Name (wpAny_loadName_cell I.ok.kind hk hc hcell fin) hd
  ·exact wpAny_Name (wpAny_loadName_free I.ok.kind hk hc hcell fin hcd) hd
theorem zan{i j pos}:PE X (.Constant (.int i) j pos) (tC (.int i)):=λ_ _ _ H _ I h=>wpAny_Constant_int ⟨.int i,H,I.tok _,⟨_,rfl⟩,h⟩
theorem zpg{b j pos}:PE X (.Constant (.bool b) j pos) (tC (.bl b)):=λ_ _ _ H _ I h=>Constant_bool ⟨.bl b,H,I,rfl,h⟩
theorem zam{x j pos}:PE X (.Constant (.str x) j pos) (tC (.str x)):=λ_ _ _ H _ I h=>Calls.Constant_str ⟨.str x,H,I.tok _,⟨_,rfl⟩,h⟩
def Gl(X:Cx)(x:Str):Prop:=X.env.kindOf x=some .globalImplicit
theorem zfp{E:Value->Shared->Prop}{pins:List (Addr×Obj)}{s:Shared}{σ:St}{H:Hp}{x:Str}{u:Value}{pos:Pos}{Q:Value->Shared->Prop}(I:Inv X pins σ H s)(hg:Gl X x)(hm:X.mg x=some u)(h:Q u s)(hd:(x == ("__debug__":Str))=false:=by decide):wpAny (model X.prog X.w) X.A (eval (.Name x pos) X.env) Q E s:=
 Calls.Name_function_global I.ok.kind hg (Calls.loadGlobal_global (by rw[I.ok.glob];exact I.mod.glob.keeps I.bk) hm h) hd
theorem zhz{E:Value->Shared->Prop}{pins:List (Addr×Obj)}{s:Shared}{σ:St}{H:Hp}{x:Str}{u:Value}{pos:Pos}{Q:Value->Shared->Prop}(I:Inv X pins σ H s)(hg:Gl X x)(hm:X.mg x=none)(hv:bootBuiltins x=some u)(h:Q u s)(hn:x≠"__name__":=by decide)(hd:(x == ("__debug__":Str))=false:=by decide):wpAny (model X.prog X.w) X.A (eval (.Name x pos) X.env) Q E s:=by
 obtain⟨mb,h1,h2⟩:=I.mod.blt
 exact Calls.Name_function_global I.ok.kind hg (Calls.loadGlobal_builtin (by rw[I.ok.glob];exact I.mod.glob.keeps I.bk) hm (by rw[I.ok.blt];exact h1.keeps I.bk) ((h2 x hn).trans hv) h) hd
theorem zat{x:Str}{v:V}{u:Value}{pos:Pos}(hg:Gl X x)(hm:X.mg x=some u)(r:RelV v u)(hd:(x == ("__debug__":Str))=false:=by decide):PE X (.Name x pos) (tC v):=
 λ_ _ _ H _ I h=>zfp I hg hm ⟨v,H,I,r,h⟩ hd
variable{a b:Expr}{ta tb:TE}{pos:Pos}
def PC(X:Cx)(op:CmpOp)(a b:Expr)(t:TE):Prop:=
 ∀(pins:List (Addr×Obj))(s:Shared)(σ:St)(H:Hp)(Q:VK),Inv X pins σ H s->t σ H Q ->
  wpAny (model X.prog X.w) X.A (eval a X.env) (λv s₁=>wpAny (model X.prog X.w) X.A (eval b X.env) (λu s₂=>wpAny (model X.prog X.w) X.A (compareOp op v u) (EP X pins σ Q) X.xe s₂) X.xe s₁) X.xe s
theorem ztn(b:Expr){op:CmpOp}(h:op≠.In)(h2:op≠.NotIn):behindInMarks op b=false:=by
 have e1:(op == CmpOp.In)=false:=by cases op <;> first|rfl|exact absurd rfl h
 have e2:(op == CmpOp.NotIn)=false:=by cases op <;> first|rfl|exact absurd rfl h2
 cases b <;> simp[behindInMarks,e1,e2]
def tB(t:TE):TT:=λσ H Q=>t σ H λx H1=>∃c,x=.bl c/\Q c H1
theorem qcb{op:CmpOp}{t:TE}(h:PC X op a b t)(h1:behindInMarks op b=false:=by first|exact ztn _ (by decide) (by decide)|rfl):PE X (.Compare a [op] [b] pos) t:=λpins s σ H Q I hw=>wpAny_Compare1 (h pins s σ H Q I hw) h1
theorem zs8{op:CmpOp}{t:TE}(h:PC X op a b t)(h1:behindInMarks op b=false:=by first|exact ztn _ (by decide) (by decide)|rfl):PT X (.Compare a [op] [b] pos) (tB t):=by
 intro pins s σ H Q I hw
 refine wpAny_isTrue_Compare1 (thn (h pins s σ H _ I hw) λv s1 h1=>thn h1 λu s2 h2=>thn h2 λc s3 ⟨x,H1,I1,r1,q1⟩=>?_) h1
 obtain⟨d,rfl,q⟩:=q1
 cases r1
 exact wpAny_truthy_bool ⟨H1,I1,q⟩
theorem zcf{e:Expr}{t:TE}(h:PE X e t)(he:∀whole,isTrue e X.env whole=(do let v <-whole;standAt e.pos;holding [v] (truthy v)):=by intro _;rfl):PT X e (tB t):=by
 intro pins s σ H Q I hw
 refine isTrue_plain (thn (h pins s σ H _ I hw) λv s1 ⟨x,H1,I1,r1,q1⟩=>?_) (he _)
 obtain⟨d,rfl,q⟩:=q1
 cases r1
 exact wpAny_truthy_bool ⟨H1,I1,q⟩
variable{tA tB':TT}{rest:List Expr}
def tAnd(t u:TT):TT:=λσ H Q=>t σ H λc H1=>if c=true then u σ H1 Q else Q false H1
def tOr(t u:TT):TT:=λσ H Q=>t σ H λc H1=>if c=true then Q true H1 else u σ H1 Q
def tNot(t:TT):TT:=λσ H Q=>t σ H λc H1=>Q (!c) H1
theorem zw0(ha:PT X a tA):PW X (.BoolOp .And [a] pos) tA:=by
 intro wh pins s σ H Q I h
 refine isTrue_and (thn (ha pins s σ H Q I h) λc s1 e=>?_)
 cases c with
 |true=>exact isTrue_and_nil e
 |false=>exact e
theorem zs7(ha:PT X a tA):PW X (.BoolOp .Or [a] pos) tA:=by
 intro wh pins s σ H Q I h
 refine isTrue_or (thn (ha pins s σ H Q I h) λc s1 e=>?_)
 cases c with
 |false=>exact isTrue_or_nil e
 |true=>exact e
theorem qb8(ha:PT X a tA)(hb:PW X (.BoolOp .And (b::rest) pos) tB'):PW X (.BoolOp .And (a::b::rest) pos) (tAnd tA tB'):=by
 intro wh pins s σ H Q I h
 refine isTrue_and (thn (ha pins s σ H _ I h) λc s1 ⟨H1,I1,q1⟩=>?_)
 cases c with
 |true=>exact hb wh pins s1 σ H1 Q I1 q1
 |false=>exact⟨H1,I1,q1⟩
theorem zwz(ha:PT X a tA)(hb:PW X (.BoolOp .Or (b::rest) pos) tB'):PW X (.BoolOp .Or (a::b::rest) pos) (tOr tA tB'):=by
 intro wh pins s σ H Q I h
 refine isTrue_or (thn (ha pins s σ H _ I h) λc s1 ⟨H1,I1,q1⟩=>?_)
 cases c with
 |true=>exact⟨H1,I1,q1⟩
 |false=>exact hb wh pins s1 σ H1 Q I1 q1
theorem zm0(ha:PT X a tA):PT X (.UnaryOp .Not a pos) (tNot tA):=by
 intro pins s σ H Q I h
 exact isTrue_not (ha pins s σ H (λc H1=>Q (!c) H1) I h)
def tAndV(ta tb:TE):TE:=λσ H Q=>ta σ H λx H1=>∃c,x=.bl c/\if c=true then tb σ H1 Q else Q (.bl false) H1
def tOrV(ta tb:TE):TE:=λσ H Q=>ta σ H λx H1=>∃c,x=.bl c/\if c=true then Q (.bl true) H1 else tb σ H1 Q
theorem zpf{op}{t:TE}(h:PE X a t):PE X (.BoolOp op [a] pos) t:=λpins s σ H Q I hw=>BoolOp_one (h pins s σ H Q I hw)
theorem zph(ha:PE X a ta)(hb:PE X (.BoolOp .And (b::rest) pos) tb):PE X (.BoolOp .And (a::b::rest) pos) (tAndV ta tb):=by
 intro pins s σ H Q I h
 refine BoolOp_and (thn (ha pins s σ H _ I h) λv s1 ⟨x,H1,I1,r1,q1⟩=>?_)
 obtain⟨c,rfl,q1⟩:=q1
 cases r1
 refine wpAny_truthy_bool ?_
 cases c with
 |true=>exact hb pins s1 σ H1 Q I1 q1
 |false=>exact⟨.bl false,H1,I1,rfl,q1⟩
theorem pe_or(ha:PE X a ta)(hb:PE X (.BoolOp .Or (b::rest) pos) tb):PE X (.BoolOp .Or (a::b::rest) pos) (tOrV ta tb):=by
 intro pins s σ H Q I h
 refine BoolOp_or (thn (ha pins s σ H _ I h) λv s1 ⟨x,H1,I1,r1,q1⟩=>?_)
 obtain⟨c,rfl,q1⟩:=q1
 cases r1
 refine wpAny_truthy_bool ?_
 cases c with
 |false=>exact hb pins s1 σ H1 Q I1 q1
 |true=>exact⟨.bl true,H1,I1,rfl,q1⟩
def tIf(t:TT)(ta tb:TE):TE:=λσ H Q=>t σ H λc H1=>if c=true then ta σ H1 Q else tb σ H1 Q
theorem qao{c:Expr}(hc:PT X c tA)(ha:PE X a ta)(hb:PE X b tb):PE X (.IfExp c a b pos) (tIf tA ta tb):=by
 intro pins s σ H Q I h
 refine wpAny_IfExp (thn (hc pins s σ H _ I h) λd s1 ⟨H1,I1,q1⟩=>?_)
 cases d with
 |true=>exact ha pins s1 σ H1 Q I1 q1
 |false=>exact hb pins s1 σ H1 Q I1 q1
end
def SqL(K:qfa)(H:Hp)(a:Addr)(xs:List V):Prop:=
 Rd H a (.lst xs) ∨
  ∃(o:Obj)(its:Array Value)(n:Nat),K.lookup a=some o/\o.cls=.type "list"/\o.dict=none/\o.data=.seq its n/\its.size<=sizeLine/\Vals xs its.toList
def SqT(K:qfa)(H:Hp)(a:Addr)(xs:List V):Prop:=
 Rd H a (.tup xs) ∨
  ∃(o:Obj)(its:Array Value)(n:Nat),K.lookup a=some o/\o.cls=.type "tuple"/\o.data=.seq its n/\its.size<=sizeLine/\Vals xs its.toList
def absV:Value->Option V
 |.none=>some .non
 |.bool b=>some (.bl b)
 |.int i _=>some (.int i)
 |.str x _=>some (.str x)
 |.bytes b _=>some (.byt b)
 |.float b _=>some (.flt b)
 |.ref a=>some (.ref a)
 |.type n=>some (.ty n)
 |_=>none
theorem RelV.abs{x:V}{u:Value}(r:RelV x u):absV u=some x:=by
 cases x with
 |non=>cases r;rfl
 |bl _=>cases r;rfl
 |int _=>obtain⟨t,rfl⟩:=r;rfl
 |str _=>obtain⟨t,rfl⟩:=r;rfl
 |byt _=>obtain⟨t,rfl⟩:=r;rfl
 |flt _=>obtain⟨t,rfl⟩:=r;rfl
 |ref _=>cases r;rfl
 |ty _=>cases r;rfl
theorem RelV.inj{x y:V}{u:Value}(r:RelV x u)(q:RelV y u):x=y:=qfl.inj (r.abs.symm.trans q.abs)
theorem Vals.inj:∀{xs ys:List V}{us:List Value},Vals xs us->Vals ys us->xs=ys
 |_,_,_,.nil,.nil=>rfl
 |_,_,_,.cons r t,.cons r' t'=>by rw[r.inj r',Vals.inj t t']
section
variable{X:Cx}{pins:List (Addr×Obj)}{σ:St}{H:Hp}{s:Shared}{a:Addr}{xs ys:List V}
theorem SqL.of{K:qfa}(h:H a=some (.lst xs)):SqL K H a xs:=.inl (.inl h)
theorem Inv.list(I:Inv X pins σ H s)(h:SqL X.K H a xs):∃its:List Value,Vals xs its/\PlainL s.heap a its.toArray/\xs.length<=sizeLine:=by
 rcases h with h|⟨o,its,n,hk,hc,hd,hs,hz,r⟩
 ·obtain⟨z,its,n,r,e⟩:=h.ok I.hok
  exact⟨its,r,⟨_,n,e,rfl,rfl,rfl⟩,z⟩
 ·refine⟨its.toList,r,⟨o,n,I.kIn a o hk,hc,hd,by simpa using hs⟩,?_⟩
  have e:=r.length
  simp only[qhc]at e
  lia
theorem Inv.tuple(I:Inv X pins σ H s)(h:SqT X.K H a xs):∃its:List Value,Vals xs its/\IsTup s.heap a its.toArray/\xs.length<=sizeLine:=by
 rcases h with h|⟨o,its,n,hk,hc,hs,hz,r⟩
 ·obtain⟨z,its,r,p⟩:=h.ok I.hok
  exact⟨its,r,p,z⟩
 ·refine⟨its.toList,r,⟨o,I.kIn a o hk,hc,n,by simpa using hs⟩,?_⟩
  have e:=r.length
  simp only[qhc]at e
  lia
theorem Inv.list_inj(I:Inv X pins σ H s)(h:SqL X.K H a xs)(h':SqL X.K H a ys):xs=ys:=by
 obtain⟨its,r,⟨o,n,e,_,_,d⟩,_⟩:=I.list h
 obtain⟨its',r',⟨o',n',e',_,_,d'⟩,_⟩:=I.list h'
 rw[e]at e';cases e'
 rw[d]at d'
 injection d' with d1 _
 have:its=its':=by simpa using congrArg Array.toList d1
 subst this
 exact r.inj r'
end
abbrev Cx.wish(X:Cx)(E:Value->Shared->Prop):Cx:={ X with xe:=E }
theorem Cx.Ok.wish{X:Cx}(ok:X.Ok)(E:Value->Shared->Prop):(X.wish E).Ok:=
 ⟨ok.mod,ok.kind,ok.glob,ok.blt,ok.above,ok.inj,ok.has,ok.cab,ok.hd,ok.frames,ok.stk,ok.exf,ok.bs,ok.bsz,ok.noex,ok.exfs,ok.funs,ok.frf⟩
theorem Cx.Ok.unwish{X:Cx}{E:Value->Shared->Prop}(ok:(X.wish E).Ok):X.Ok:=
 ⟨ok.mod,ok.kind,ok.glob,ok.blt,ok.above,ok.inj,ok.has,ok.cab,ok.hd,ok.frames,ok.stk,ok.exf,ok.bs,ok.bsz,ok.noex,ok.exfs,ok.funs,ok.frf⟩
section
variable{X:Cx}{pins:List (Addr×Obj)}{σ:St}{H:Hp}{s:Shared}{E:Value->Shared->Prop}
theorem Inv.wish(I:Inv X pins σ H s)(E:Value->Shared->Prop):Inv (X.wish E) pins σ H s:=⟨I.ok.wish E,I.os,I.bare,I.base,I.loc,I.cell,I.free,I.freeC,I.pin,I.hok,I.len⟩
theorem Inv.unwish(I:Inv (X.wish E) pins σ H s):Inv X pins σ H s:=⟨I.ok.unwish,I.os,I.bare,I.base,I.loc,I.cell,I.free,I.freeC,I.pin,I.hok,I.len⟩
end
section
variable{X:Cx}{st:Stmt}{rest:List Stmt}{t u:TS}{e:Expr}{te:TE}{pos:Pos}
def tNext:TS:=λD σ H=>D.nx σ H
def tSeq(t u:TS):TS:=λD σ H=>t { D with nx:=u D } σ H
theorem zav:PSs X [] tNext:=λ_ _ σ H _ I h=>wpAny_execs_nil ⟨σ,H,I,h⟩
theorem zad(h1:PS X st t)(h2:PSs X rest u):PSs X (st::rest) (tSeq t u):=by
 intro pins s σ H D I h
 refine wpAny_execs_cons (thn (h1 pins s σ H { D with nx:=u D } I h) λf s1 q=>?_)
 cases f with
 |next=>
  obtain⟨σ',H',I',q⟩:=q
  exact h2 pins s1 σ' H' D I' q
 |ret v=>exact q
 |brk=>exact q
 |cont=>exact q
theorem zaf(h1:PS X st t):PSs X [st] t:=by
 intro pins s σ H D I h
 refine wpAny_execs_cons (thn (h1 pins s σ H D I h) λf s1 q=>?_)
 cases f with
 |next=>exact wpAny_execs_nil q
 |ret v=>exact q
 |brk=>exact q
 |cont=>exact q
theorem Inv.quiet{pins:List (Addr×Obj)}{σ:St}{H:Hp}{s:Shared}(I:Inv X pins σ H s):interactive X.env=false:=by simp[interactive,I.ok.kind]
def tDrop(te:TE):TS:=λD σ H=>te σ H λ_ H1=>D.nx σ H1
theorem zal(he:PE X e te)(hs:swapsWith e none pos.line X.env=pure false:=by rfl):PS X (.Expr e pos) (tDrop te):=by
 intro pins s σ H D I h
 exact wpAny_Expr_any (thn (he pins s σ H _ I h) λv s1 ⟨x,H1,I1,r1,q1⟩=>⟨σ,H1,I1,q1⟩) I.quiet hs
def tRet(te:TE):TS:=λD σ H=>te σ H D.rt
theorem zaq(he:PE X e te):PS X (.Return (some e) pos) (tRet te):=by
 intro pins s σ H D I h
 exact wpAny_Return_some (thn (he pins s σ H _ I h) λv s1 ⟨x,H1,I1,r1,q1⟩=>⟨x,σ,H1,I1,r1,q1⟩)
def tRetN:TS:=λD _ H=>D.rt .non H
theorem zw1:PS X (.Return none pos) tRetN:=λ_ _ σ H _ I h=>wpAny_Return_none ⟨.non,σ,H,I,rfl,h⟩
def tIfS(c:TT)(t u:TS):TS:=λD σ H=>c σ H λb H1=>if b=true then t D σ H1 else u D σ H1
theorem za9{c:Expr}{a b:List Stmt}{tc:TT}(hc:PT X c tc)(ha:PSs X a t)(hb:PSs X b u):PS X (.If c a b pos) (tIfS tc t u):=by
 intro pins s σ H D I h
 refine wpAny_If (thn (hc pins s σ H _ I h) λd s1 ⟨H1,I1,q1⟩=>?_)
 cases d with
 |true=>exact ha pins s1 σ H1 D I1 q1
 |false=>exact hb pins s1 σ H1 D I1 q1
end
abbrev TG:=V->St->Hp->(St->Hp->Prop)->Prop
abbrev TGs:=List V->St->Hp->(St->Hp->Prop)->Prop
def PG(X:Cx)(target:Expr)(t:TG):Prop:=
 ∀(pins:List (Addr×Obj))(s:Shared)(σ:St)(H:Hp)(v:V)(u:Value)(Q:St->Hp->Prop),Inv X pins σ H s->RelV v u->t v σ H Q ->
  wpAny (model X.prog X.w) X.A (assign target X.env u) (λ_ s'=>∃σ' H',Inv X pins σ' H' s'/\Q σ' H') X.xe s
def PGs(X:Cx)(ts:List Expr)(t:TGs):Prop:=
 ∀(pins:List (Addr×Obj))(s:Shared)(σ:St)(H:Hp)(vs:List V)(us:List Value)(Q:St->Hp->Prop),Inv X pins σ H s->Vals vs us->t vs σ H Q ->
  wpAny (model X.prog X.w) X.A (assignInOrder ((assignEach ts X.env).map (·.2)) us) (λ_ s'=>∃σ' H',Inv X pins σ' H' s'/\Q σ' H') X.xe s
abbrev TSet:=V->V->V->Hp->(Hp->Prop)->Prop
def PSet(X:Cx)(t:TSet):Prop:=
 ∀(pins:List (Addr×Obj))(s:Shared)(σ:St)(H:Hp)(o i v:V)(ov iv u:Value)(Q:Hp->Prop),Inv X pins σ H s->RelV o ov->RelV i iv->RelV v u->t o i v H Q ->
  wpAny (model X.prog X.w) X.A (setItem ov iv u) (λ_ s'=>∃H',Inv X pins σ H' s'/\Q H') X.xe s
section
variable{X:Cx}{pos:Pos}
def zjm(i:Nat):TG:=λv σ H Q=>Q (σ.set i (some v)) H
theorem zbg{i:Nat}{x:Str}(hN:X.N.Nodup)(hi:X.N[i]?=some x)(hx:Loc X.env.scope x)(hf:X.fn x=true\/X.env.scope.names.lookup x=some .local:=by first|exact .inl rfl|exact .inr rfl|assumption):PG X (.Name x pos) (zjm i):=by
 intro pins s σ H v u Q I r h
 exact wpAny_assign_Name (znl I hN hi hx r (λs' I'=>⟨_,H,I',h⟩) hf)
def gNil:TGs:=λvs σ H Q=>vs=[]/\Q σ H
def zyq(t:TG)(u:TGs):TGs:=λvs σ H Q=>∃v r,vs=v::r/\t v σ H λσ' H'=>u r σ' H' Q
theorem qds:PGs X [] gNil:=by
 intro pins s σ H vs us Q I r h
 obtain⟨e,h⟩:=h
 subst e
 cases r
 exact assignInOrder_nil ⟨σ,H,I,h⟩
theorem ztc{e:Expr}{es:List Expr}{t:TG}{u:TGs}(h1:PG X e t)(h2:PGs X es u)(hs:(assignEach (e::es) X.env).map (·.2)=assign e X.env::(assignEach es X.env).map (·.2):=by rfl):PGs X (e::es) (zyq t u):=by
 intro pins s σ H vs us Q I r h
 obtain⟨v,vr,e1,h⟩:=h
 subst e1
 cases r with
 |cons r rr=>
  rw[hs]
  refine assignInOrder_cons (thn (h1 pins s σ H _ _ _ I r h) λ_ s1 ⟨σ1,H1,I1,q1⟩=>?_)
  exact h2 pins s1 σ1 H1 _ _ Q I1 rr q1
def gTup(K:qfa)(n:Nat)(t:TGs):TG:=λv σ H Q=>∃a xs,v=.ref a/\SqT K H a xs/\xs.length=n/\t xs σ H Q
theorem pg_tup{es:List Expr}{k:Nat}{t:TGs}{n:Nat}(hc:X.calm=true)(h:PGs X es t)(hn:(assignEach es X.env).length=n:=by rfl)(hst:(assignEach es X.env).findIdx? (·.1)=none:=by rfl):PG X (.Tuple es k pos) (gTup X.K n t):=by
 intro pins s σ H v u Q I r hw
 obtain⟨a,xs,e1,hq,hl,hw⟩:=hw
 subst e1
 cases r
 obtain⟨its,rv,ht,hz⟩:=I.tuple hq
 refine assign_Tuple_tuple (I.ok.hd hc) ht (by simp[hn,<-hl,rv.length]) hst λh' hx=>?_
 have I1:Inv X pins σ H { s with heap:=h' }:=I.kept (t':=s.toks) λb o e=>hx b o (qf6 (Heap.lt_size e)) e
 exact h pins _ σ H xs _ Q I1 (by simpa using rv) hw
def gSub(to ti:TE)(t:TSet):TG:=λv σ H Q=>to σ H λo H1=>ti σ H1 λi H2=>t o i v H2 λH3=>Q σ H3
theorem zw9{o i:Expr}{to ti:TE}{t:TSet}(ho:PE X o to)(hi:PE X i ti)(hs:PSet X t)(ha:∀v,assign (.Subscript o i pos) X.env v=(do
   let ov <-holding [v] (eval o X.env)
   let iv <-holding [v,ov] (eval i X.env)
   standAt pos
   holding [v,ov,iv] (setItem ov iv v)
   release [v,ov,iv] []):=by intro _;rfl):PG X (.Subscript o i pos) (gSub to ti t):=by
 intro pins s σ H v u Q I r h
 rw[ha]
 refine wpAny_bind (wpAny_holding (thn (ho pins s σ H _ I h) λov s1 ⟨x,H1,I1,r1,q1⟩=>?_))
 refine wpAny_bind (wpAny_holding (thn (hi pins s1 σ H1 _ I1 q1) λiv s2 ⟨y,H2,I2,r2,q2⟩=>?_))
 refine wpAny_bind (wpAny_standAt (wpAny_bind (wpAny_holding (thn (hs pins s2 σ H2 x y v ov iv u _ I2 r1 r2 r q2) λ_ s3 ⟨H3,I3,q3⟩=>?_))))
 exact wpAny_release ⟨σ,H3,I3,q3⟩
def tAsg(te:TE)(g:TG):TS:=λD σ H=>te σ H λx H1=>g x σ H1 D.nx
theorem zw3{tg e:Expr}{te:TE}{g:TG}(he:PE X e te)(hg:PG X tg g)(hs:swapsWithSole [tg] e pos.line X.env=pure false:=by rfl)(hw:swappedStores [tg] e X.env=pure none:=by rfl)(h1:(assignEach [tg] X.env).map (·.2)=[assign tg X.env]:=by rfl):PS X (.Assign [tg] e pos) (tAsg te g):=by
 intro pins s σ H D I h
 refine wpAny_Assign_stores (thn (he pins s σ H _ I h) λv s1 ⟨x,H1,I1,r1,q1⟩=>?_) hs hw
 rw[h1]
 exact thn (hg pins s1 σ H1 x v _ I1 r1 q1) λ_ s2 q=>q
theorem zao{i:Nat}{x:Str}{e:Expr}{te:TE}{pos':Pos}(hN:X.N.Nodup)(hi:X.N[i]?=some x)(hx:Loc X.env.scope x)(he:PE X e te)(hs:swapsWith e (some (.Name x pos')) pos.line X.env=pure false:=by rfl)(hf:X.fn x=true\/X.env.scope.names.lookup x=some .local:=by first|exact .inl rfl|exact .inr rfl|assumption) :
  PS X (.Assign [.Name x pos'] e pos) (tAsg te (zjm i)):=by
 intro pins s σ H D I h
 refine wpAny_Assign_Name (thn (he pins s σ H _ I h) λv s1 ⟨y,H1,I1,r1,q1⟩=>?_) hs
 exact znl I1 hN hi hx r1 (λs2 I2=>⟨_,H1,I2,q1⟩) hf
end
section
variable{X:Cx}{pos:Pos}
def tWhile(c:TT)(tb:TS):TS:=λD σ H=>∃W:Nat->St->Hp->Prop,(∃m,W m σ H)/\∀m σ H,W m σ H ->
 c σ H λb H1=>if b=true then ∃N:St->Hp->Prop,(∀σ' H',N σ' H'->∃m',m'<m/\W m' σ' H')/\tb { D with nx:=N,ct:=N,bk:=D.nx } σ H1 else D.nx σ H1
theorem zd4{c:Expr}{body:List Stmt}{tc:TT}{tb:TS}(hp:PassesOwn (model X.prog X.w) X.A X.env X.xe)(hc:PT X c tc)(hb:PSs X body tb):PS X (.While c body [] pos) (tWhile tc tb):=by
 intro pins s σ H D I h
 obtain⟨W,⟨m0,w0⟩,turn⟩:=h
 refine wpAny_While (codeAny_whileLoop (λn s'=>∃σ' H',Inv X pins σ' H' s'/\W n σ' H') ?_ m0 ⟨σ,H,I,w0⟩)
 rintro n s1 ⟨σ1,H1,I1,w1⟩
 refine wpAny_passesOwn hp (thn (hc pins s1 σ1 H1 _ I1 (turn n σ1 H1 w1)) λb s2 ⟨H2,I2,q2⟩=>?_)
 cases b with
 |true=>
  obtain⟨N,hN,q2⟩:=q2
  rw[if_pos rfl]
  refine wpAny_passesOwn hp (thn (hb pins s2 σ1 H2 _ I2 q2) λf s3 q3=>?_)
  cases f with
  |next=>
   obtain⟨σ3,H3,I3,n3⟩:=q3
   obtain⟨m',hm,w3⟩:=hN σ3 H3 n3
   exact⟨m',hm,σ3,H3,I3,w3⟩
  |cont=>
   obtain⟨σ3,H3,I3,n3⟩:=q3
   obtain⟨m',hm,w3⟩:=hN σ3 H3 n3
   exact⟨m',hm,σ3,H3,I3,w3⟩
  |brk=>exact q3
  |ret v=>exact q3
 |false=>
  rw[if_neg qfu]
  exact wpAny_execs_nil ⟨σ1,H2,I2,q2⟩
end
structure It where
 go:Nat->Hp->Prop
 yld:Nat->Hp->V->Hp->Prop
 stop:Nat->Hp->Prop
def zon(X:Cx)(pins:List (Addr×Obj))(H:Hp)(b:Addr):Prop:=
 H b=none/\b≠X.env.locals/\b ∉ X.fs/\(b∈X.ex\/X.s₀.heap.objs.size<=b)/\(∀x c,X.env.cells.lookup x=some c->c≠b)/\∀p∈X.pn++pins,p.1≠b
theorem Inv.fpOk{X:Cx}{pins:List (Addr×Obj)}{σ:St}{H H':Hp}{s:Shared}{b:Addr}(I:Inv X pins σ H s)(hb:s.heap.objs.size<=b)(hn:H' b=none):zon X pins H' b:=by
 refine⟨hn,qhm (qfn I.lt hb),I.nofs hb,.inr (qgn I.sz hb),λx c e z=>?_,λp hp z=>?_⟩
 ·obtain⟨v,q⟩:=I.cell x c e
  exact absurd (qfn q.lt (by rw[z];exact hb)) (qhf _)
 ·exact absurd (qfn (Heap.lt_size (I.pin p hp).1) (by rw[z];exact hb)) (qhf _)
structure qe1(P:Program)(w:World)(K:qfa)(tg:Expr)(J:It)(fp:List Addr)(it:Addr)(tn:Nat->Heap->Prop):Prop where
 mem:it∈fp
 obj:∀i h,tn i h->∀b∈fp,∃o,h.get? b=some o/\∀v,o.data≠.cell v
 keep:∀i h h',tn i h->(∀b∈fp,∀o,h.get? b=some o->h'.get? b=some o)->tn i h'
 item:∀(X:Cx),X.prog=P->X.w=w->X.K=K->X.calm=true->∀(i:Nat)(pins:List (Addr×Obj))(s:Shared)(σ:St)(H:Hp)(E:Value->Shared->Prop),Inv X pins σ H s->(∀b∈fp,zon X pins H b)->tn i s.heap->J.go i H ->
  wpAny (model P w) X.A (pyNext (.ref it)) (λr s1=>∃u,r=some u ∧
   wpAny (model P w) X.A (letOwnedTupleGo tg (.ref it) u) (λ_ s2=>∃x H',Inv X pins σ H' s2/\RelV x u/\J.yld i H x H'/\tn (i+1) s2.heap/\∀b∈fp,H' b=none) E s1) E s
 done:∀(X:Cx),X.prog=P->X.w=w->X.K=K->X.calm=true->∀(i:Nat)(pins:List (Addr×Obj))(s:Shared)(σ:St)(H:Hp)(E:Value->Shared->Prop),Inv X pins σ H s->(∀b∈fp,zon X pins H b)->tn i s.heap->J.stop i H ->
  wpAny (model P w) X.A (pyNext (.ref it)) (λr s1=>r=none/\Inv X pins σ H s1) E s
 self:∀(A:Around)(i:Nat)(s:Shared)(Q:Value->Shared->Prop)(E:Value->Shared->Prop),tn i s.heap->Q (.ref it) s->wpAny (model P w) A (pyIter (.ref it)) Q E s
abbrev TI:=St->Hp->(It->Hp->Prop)->Prop
def PIE(X:Cx)(pins:List (Addr×Obj))(σ:St)(tg:Expr)(R:It->Hp->Prop)(itv:Value)(s2:Shared):Prop:=
 ∃(it:Addr)(fp:List Addr)(tn:Nat->Heap->Prop)(J:It)(H':Hp),itv=.ref it/\Inv X pins σ H' s2/\qe1 X.prog X.w X.K tg J fp it tn/\tn 0 s2.heap/\(∀b∈fp,zon X pins H' b)/\R J H'
def PI(X:Cx)(tg iter:Expr)(wi:TI):Prop:=
 ∀(pins:List (Addr×Obj))(s:Shared)(σ:St)(H:Hp)(R:It->Hp->Prop),Inv X pins σ H s->wi σ H R ->
  wpAny (model X.prog X.w) X.A (eval iter X.env) (λv s1=>wpAny (model X.prog X.w) X.A (pyIter v) (PIE X pins σ tg R) X.xe s1) X.xe s
theorem qes{M:Model}{A:Around}{E:Value->Shared->Prop}{s:Shared}{tg:Expr}{it:Addr}{u:Value}{o:Obj}{n:String}{vs:Array Value}{Q:Unit->Shared->Prop}(ho:s.heap.get? it=some o)(hc:o.cls=.type n)(hd:o.data=.fields vs)(hn:["enumerate","zip","dict_itemiterator","dict_reverseitemiterator","odict_iterator","itertools.zip_longest","itertools.pairwise"].contains n=false)(hQ:Q () s):wpAny M A (letOwnedTupleGo tg (.ref it) u) Q E s:=by
 unfold letOwnedTupleGo
 cases tg <;> first
  |exact wpAny_pure hQ
  |(cases u <;> first
    |exact wpAny_pure hQ
    |(refine wpAny_bind (wpAny_load ho ?_)
      rw[hc,hd]
      show wpAny M A (if (["enumerate","zip","dict_itemiterator","dict_reverseitemiterator","odict_iterator","itertools.zip_longest","itertools.pairwise"].contains n && vs[0]? == some (rawInt _))=true then _ else _) Q E s
      rw[if_neg (by intro h;rw[hn,Bool.false_and]at h;cases h)]
      exact wpAny_pure hQ))
def Itl(K:qfa)(a:Addr):It:=
 ⟨λi H=>∃xs x,SqL K H a xs/\xs[i]?=some x,λi H x H'=>H'=H/\∀xs,SqL K H a xs->xs[i]?=some x,λi H=>∃xs,SqL K H a xs/\xs.length<=i⟩
def Itr(lo:Int)(n:Nat):It:=⟨λi _=>i<n,λi H x H'=>H'=H/\x=.int (lo+i),λi _=>n<=i⟩
theorem zwd{P:Program}{w:World}{K:qfa}{tg:Expr}(a it:Addr):qe1 P w K tg (Itl K a) [it] it (λi h=>h.IsListIter it a i) where
 mem:=by simp
 obj:=λi h st b hb=>by
  have e:b=it:=by simpa using hb
  subst e
  obtain⟨o,e,c,d⟩:=st
  exact⟨o,e,λv z=>by rw[d]at z;cases z⟩
 keep:=λi h h' st k=>st.at λo e=>k it (by simp) o e
 item:=by
  intro X hP hw hK hc i pins s σ H E I hf st hg
  subst hP hw hK
  obtain⟨xs,x,hq,hx⟩:=hg
  obtain⟨its,rv,p,hz⟩:=I.list hq
  obtain⟨u,hu,ru⟩:=rv.get hx
  obtain⟨f0,f1,f2,f3,f4,f5⟩:=hf it (by simp)
  refine wpAny_pyNext_list_item st p.isList (x:=u) (by simpa using hu) λh' st' sb=>?_
  have I1:Inv X pins σ H { s with heap:=h' }:=I.turned (t':=s.toks) (λb o hb e=>(sb.2 b hb).trans e) f0 f1 f3 f4 f5
  obtain⟨o,e,c,d⟩:=id st'
  exact⟨u,rfl,qes (s:={ s with heap:=h' }) e c d (by decide) ⟨x,H,I1,ru,⟨rfl,λys hy=>by rw[I.list_inj hy hq];exact hx⟩,st',λb hb=>(hf b hb).1⟩⟩
 done:=by
  intro X hP hw hK hc i pins s σ H E I hf st hg
  subst hP hw hK
  obtain⟨xs,hq,hx⟩:=hg
  obtain⟨its,rv,p,hz⟩:=I.list hq
  obtain⟨f0,f1,f2,f3,f4,f5⟩:=hf it (by simp)
  have hl:=rv.length
  exact wpAny_pyNext_list_end (I.ok.hd hc) st p.isList (by simp;lia) λh' eb=>⟨rfl,I.turned (t':=s.toks) (λb o hb e=>eb b o hb e) f0 f1 f3 f4 f5⟩
 self:=λ_ _ _ _ _ st h=>wpAny_pyIter_listiter st h
theorem zuf{P:Program}{w:World}{K:qfa}{tg:Expr}(it:Addr)(lo:Int)(n:Nat):qe1 P w K tg (Itr lo n) [it] it (λi h=>IsRangeIter h it (lo+(i:Nat)*1) ((n:Int) - (i:Nat)) 1) where
 mem:=by simp
 obj:=λi h st b hb=>by
  have e:b=it:=by simpa using hb
  subst e
  exact⟨_,st,λv z=>by
   have z':Data.fields _=Data.cell v:=z
   cases z'⟩
 keep:=λi h h' st k=>k it (by simp) _ st
 item:=by
  intro X hP hw hK hc i pins s σ H E I hf st hg
  subst hP hw hK
  obtain⟨f0,f1,f2,f3,f4,f5⟩:=hf it (by simp)
  have W:=Walks.range (prog:=X.prog) (w:=X.w) (I.ok.hd hc) it lo 1 n
  refine W.item i s _ _ hg st λv h' tk hv st' kk=>?_
  obtain⟨t,rfl⟩:=hv
  have I1:Inv X pins σ H { s with heap:=h',toks:=tk }:=I.turned (λb o hb e=>kk b o (by simpa using hb) e) f0 f1 f3 f4 f5
  refine⟨_,rfl,qes (s:={ s with heap:=h',toks:=tk }) (n:="range_iterator") st' rfl rfl (by decide) ⟨.int (lo+i),H,I1,⟨t,?_⟩,⟨rfl,rfl⟩,st',λb hb=>(hf b hb).1⟩⟩
  rw[Int.mul_one]
 done:=by
  intro X hP hw hK hc i pins s σ H E I hf st hg
  subst hP hw hK
  obtain⟨f0,f1,f2,f3,f4,f5⟩:=hf it (by simp)
  exact wpAny_pyNext_range_end (I.ok.hd hc) st (by have:n<=i:=hg;lia) λh' eb=>⟨rfl,I.turned (t':=s.toks) (λb o hb e=>eb b o hb e) f0 f1 f3 f4 f5⟩
 self:=λ_ _ _ _ _ st h=>wpAny_pyIter_rangeiter st h
section
variable{X:Cx}{tg:Expr}
def iList(K:qfa)(tl:TE):TI:=λσ H R=>tl σ H λx H1=>∃a,x=.ref a/\(∃xs,SqL K H1 a xs)/\R (Itl K a) H1
theorem zby{l:Expr}{tl:TE}(hl:PE X l tl):PI X tg l (iList X.K tl):=by
 intro pins s σ H R I h
 refine thn (hl pins s σ H _ I h) λv s1 ⟨x,H1,I1,r1,q1⟩=>?_
 obtain⟨a,e,⟨xs,hq⟩,q⟩:=q1
 subst e
 cases r1
 obtain⟨its,rv,p,hz⟩:=I1.list hq
 refine wpAny_pyIter_list p.isList ?_
 refine⟨s1.heap.objs.size,[s1.heap.objs.size],_,_,H1,rfl,I1.kept (t':=s1.toks) λb o e=>Heap.get?_push_of_some _ e,zwd a _,⟨_,Heap.get?_push_size _ rfl,rfl,rfl⟩,λb hb=>?_,q⟩
 have e:b=s1.heap.objs.size:=by simpa using hb
 subst e
 exact I1.fpOk (qfh _) (I1.hok.fresh (qfh _))
theorem zs6{pins:List (Addr×Obj)}{σ:St}{H:Hp}{s:Shared}{R:It->Hp->Prop}{E:Value->Shared->Prop}{lo hi:Int}{t u v:Tok}{tk:Nat}(I:Inv X pins σ H s)(h1:-(2 ^ 62)<=lo)(h2:lo<2 ^ 62)(h3:-(2 ^ 62)<=hi)(h4:hi<2 ^ 62)(q:R (Itr lo (hi - lo).toNat) H):wpAny (model X.prog X.w) X.A (pyIter (.ref s.heap.objs.size)) (PIE X pins σ tg R) E { s with heap:=s.heap.push { cls:=.type "range",data:=.fields #[.int lo t,.int hi u,.int 1 v] },toks:=tk }:=by
 refine wpAny_pyIter_range (IsRange.new ..) (small_one h1 h2 h3 h4) ?_
 have I1:Inv X pins σ H { s with heap:=s.heap.push { cls:=.type "range",data:=.fields #[.int lo t,.int hi u,.int 1 v] },toks:=tk }:=I.kept λb o e=>Heap.get?_push_of_some _ e
 refine⟨(s.heap.push { cls:=.type "range",data:=.fields #[.int lo t,.int hi u,.int 1 v] }).objs.size,[(s.heap.push { cls:=.type "range",data:=.fields #[.int lo t,.int hi u,.int 1 v] }).objs.size],_,_,H,rfl,
  I1.kept (t':=tk) λb o e=>Heap.get?_push_of_some _ e,zuf _ lo (hi - lo).toNat,?_,λb hb=>?_,q⟩
 ·have e1:lo+((0:Nat):Int)*1=lo:=by simp
  have e2:(((hi - lo).toNat:Nat):Int) - ((0:Nat):Int)=Builtin.Range.rangeSize lo hi 1:=by rw[rangeSize_one];split <;> lia
  show IsRangeIter _ _ (lo+((0:Nat):Int)*1) ((((hi - lo).toNat:Nat):Int) - ((0:Nat):Int)) 1
  rw[e1,e2]
  exact Heap.get?_push_size _ rfl
 ·have e:b=(s.heap.push { cls:=.type "range",data:=.fields #[.int lo t,.int hi u,.int 1 v] }).objs.size:=by simpa using hb
  subst e
  exact I1.fpOk (qfh _) (I1.hok.fresh (qfh _))
def iRng1(ta:TA):TI:=λσ H R=>ta σ H λvs H1=>∃j:Int,vs=[.int j]/\-(2 ^ 62)<=j/\j<2 ^ 62/\R (Itr 0 j.toNat) H1
def iRng2(ta:TA):TI:=λσ H R=>ta σ H λvs H1=>∃i j:Int,vs=[.int i,.int j]/\(-(2 ^ 62)<=i/\i<2 ^ 62/\-(2 ^ 62)<=j/\j<2 ^ 62)/\R (Itr i (j - i).toNat) H1
theorem zw8{a:Expr}{ta:TA}{p pos:Pos}(hg:Gl X "range")(hm:X.mg "range"=none)(ha:PA X [a] ta)(hs:starEach [a] X.env=[(false,eval a X.env)]:=by rfl):PI X tg (.Call (.Name "range" p) [a] [] pos) (iRng1 ta):=by
 intro pins s σ H R I h
 refine Call_ (zhz I hg hm boot_range (PyProof.Rows.callWith_type1 (thn (ha pos pins s σ H _ I h) λus s1 ⟨vs,H1,I1,r1,q1⟩=>?_) hs rfl))
 obtain⟨j,e,q1,q2,q⟩:=q1
 subst e
 cases r1 with
 |cons r rr=>
  cases rr
  obtain⟨t,rfl⟩:=r
  exact call_range_1 (zs6 I1 (by lia) (by lia) q1 q2 (by simpa using q))
theorem zw7{a b:Expr}{ta:TA}{p pos:Pos}(hg:Gl X "range")(hm:X.mg "range"=none)(ha:PA X [a,b] ta)(hs:starEach [a,b] X.env=[(false,eval a X.env),(false,eval b X.env)]:=by rfl)(hs2:starEach [b] X.env=[(false,eval b X.env)]:=by rfl) :
  PI X tg (.Call (.Name "range" p) [a,b] [] pos) (iRng2 ta):=by
 intro pins s σ H R I h
 refine Call_ (zhz I hg hm boot_range (PyProof.Rows.callWith_type1 (thn (ha pos pins s σ H _ I h) λus s1 ⟨vs,H1,I1,r1,q1⟩=>?_) (by rw[hs,hs2]) (by rw[hs2];rfl)))
 obtain⟨i,j,e,⟨q1,q2,q3,q4⟩,q⟩:=q1
 subst e
 cases r1 with
 |cons r rr=>
  cases rr with
  |cons r' rr=>
   cases rr
   obtain⟨t,rfl⟩:=r
   obtain⟨t',rfl⟩:=r'
   exact call_range_2 (zs6 I1 q1 q2 q3 q4 q)
def tFor(wi:TI)(g:TG)(tb:TS):TS:=λD σ H=>wi σ H λJ H1=>∃W:Nat->Nat->St->Hp->Prop,(∃m,W 0 m σ H1)/\∀i m σ H,W i m σ H ->
 (J.stop i H/\D.nx σ H)\/(J.go i H/\∃N:St->Hp->Prop,(∀σ' H',N σ' H'->∃m',m'<m/\W (i+1) m' σ' H')/\∀x H',J.yld i H x H'->g x σ H' λσ2 H2=>tb { D with nx:=N,ct:=N,bk:=D.nx } σ2 H2)
def zm2(fp:List Addr)(h:Heap):List (Addr×Obj):=fp.filterMap λb=>(h.get? b).map λo=>(b,o)
theorem zf5{fp:List Addr}{h:Heap}{b:Addr}{o:Obj}(hb:b∈fp)(e:h.get? b=some o):(b,o)∈zm2 fp h:=qis.mpr ⟨b,hb,by rw[e];rfl⟩
theorem zxy{fp:List Addr}{h:Heap}{p:Addr×Obj}(hp:p∈zm2 fp h):p.1∈fp/\h.get? p.1=some p.2:=by
 obtain⟨b,hb,e⟩:=qis.mp hp
 cases q:h.get? b with
 |none=>rw[q]at e;cases e
 |some o=>
  rw[q]at e
  have e':(b,o)=p:=qfl.inj e
  subst e'
  exact⟨hb,q⟩
theorem Inv.pinned{pins:List (Addr×Obj)}{σ:St}{H:Hp}{s:Shared}{fp:List Addr}(I:Inv X pins σ H s)(hf:∀b∈fp,zon X pins H b)(ho:∀b∈fp,∃o,s.heap.get? b=some o/\∀v,o.data≠.cell v):Inv X (pins++zm2 fp s.heap) σ H s:=
 I.pins_of λp hp=>(qfj.mp hp).elim (λz=>I.pin p (qgf _ z)) λz=>by
  obtain⟨hb,e⟩:=zxy z
  obtain⟨f0,f1,f2,_⟩:=hf p.1 hb
  obtain⟨o,e',d⟩:=ho p.1 hb
  rw[e]at e';cases e'
  exact⟨e,f0,f1,f2,d⟩
theorem Inv.unpinned{pins pl:List (Addr×Obj)}{σ:St}{H:Hp}{s:Shared}(I:Inv X (pins++pl) σ H s):Inv X pins σ H s:=I.pins_of λp hp=>I.pin p (qgf _ (qgq _ hp))
theorem zei{iter:Expr}{body:List Stmt}{wi:TI}{g:TG}{tb:TS}{pos:Pos}(hp:PassesOwn (model X.prog X.w) X.A X.env X.xe)(hc:X.calm=true)(hi:PI X tg iter wi)(hg:PG X tg g)(hb:PSs X body tb)(hs:∀x,foldedSetIterable iter X.env x=pure x:=by intro _;rfl):PS X (.For tg iter body [] pos) (tFor wi g tb):=by
 intro pins s σ H D I h
 refine wpAny_For (thn (hi pins s σ H _ I h) λv s1 h1=>thn h1 λitv s2 h2=>?_) hs
 obtain⟨it,fp,tn,J,H2,e,I2,T,st2,f2,W,⟨m0,w0⟩,turn⟩:=h2
 subst e
 have stat:∀{H':Hp},(∀b∈fp,H' b=none)->∀b∈fp,zon X pins H' b:=λhn b hb=>⟨hn b hb,(f2 b hb).2⟩
 refine codeAny_forLoop_any (λn s'=>∃i σ' H',Inv X pins σ' H' s'/\tn i s'.heap/\(∀b∈fp,H' b=none)/\W i n σ' H') ?_ m0 ⟨0,σ,H2,I2,st2,λb hb=>(f2 b hb).1,w0⟩
 rintro n s3 ⟨i,σ3,H3,I3,st3,fr3,w3⟩
 rcases turn i n σ3 H3 w3 with ⟨stop,qn⟩|⟨go,N,hN,step⟩
 ·refine wpAny_passesOwn hp (thn (T.done X rfl rfl rfl hc i pins s3 σ3 H3 X.xe I3 (stat fr3) st3 stop) λr s4 ⟨hr,I4⟩=>?_)
  subst hr
  exact wpAny_execs_nil ⟨σ3,H3,I4,qn⟩
 ·refine wpAny_passesOwn hp (thn (T.item X rfl rfl rfl hc i pins s3 σ3 H3 X.xe I3 (stat fr3) st3 go) λr s4 ⟨u,hr,h4⟩=>?_)
  subst hr
  refine wpAny_passesOwn hp (thn h4 λ_ s5 ⟨x,H5,I5,r5,y5,st5,fr5⟩=>?_)
  have I5':=I5.pinned (stat fr5) (T.obj _ _ st5)
  refine wpAny_passesOwn hp (thn (hg _ s5 σ3 H5 x u _ I5' r5 (step x H5 y5)) λ_ s6 ⟨σ6,H6,I6,q6⟩=>?_)
  refine wpAny_passesOwn hp (thn (hb _ s6 σ6 H6 _ I6 q6) λf s7 q7=>?_)
  have again:∀{σ7:St}{H7:Hp},Inv X (pins++zm2 fp s5.heap) σ7 H7 s7->N σ7 H7->∃m,m<n/\∃i σ' H',Inv X pins σ' H' s7/\tn i s7.heap/\(∀b∈fp,H' b=none)/\W i m σ' H':=λ{σ7 H7} I7 n7=>by
   obtain⟨m',hm,w7⟩:=hN σ7 H7 n7
   refine⟨m',hm,i+1,σ7,H7,I7.unpinned,T.keep _ _ _ st5 λb hb o e=>(I7.pin (b,o) (qgf _ (qgf _ (zf5 hb e)))).1,λb hb=>?_,w7⟩
   obtain⟨o,e,d⟩:=T.obj _ _ st5 b hb
   exact (I7.pin (b,o) (qgf _ (qgf _ (zf5 hb e)))).2.1
  cases f with
  |next=>obtain⟨σ7,H7,I7,n7⟩:=q7;exact again I7 n7
  |cont=>obtain⟨σ7,H7,I7,n7⟩:=q7;exact again I7 n7
  |brk=>obtain⟨σ7,H7,I7,q7⟩:=q7;exact⟨σ7,H7,I7.unpinned,q7⟩
  |ret v=>obtain⟨x7,σ7,H7,I7,r7,q7⟩:=q7;exact⟨x7,σ7,H7,I7.unpinned,r7,q7⟩
end
theorem zex{K:qfa}{a:Addr}{xs:List V}{g:TG}{tb:TS}{D:qcp}{σ:St}{H:Hp}(Pv:Nat->St->Hp->Prop)(h0:Pv 0 σ H)(hl:∀i σ H,i<=xs.length->Pv i σ H->SqL K H a xs)(hs:∀i x σ H,xs[i]?=some x->Pv i σ H->g x σ H λσ2 H2=>tb { D with nx:=Pv (i+1),ct:=Pv (i+1),bk:=D.nx } σ2 H2)(hd:∀σ H,Pv xs.length σ H->D.nx σ H) :
  ∃W:Nat->Nat->St->Hp->Prop,(∃m,W 0 m σ H)/\∀i m σ H,W i m σ H ->
   ((Itl K a).stop i H/\D.nx σ H)\/((Itl K a).go i H/\∃N:St->Hp->Prop,(∀σ' H',N σ' H'->∃m',m'<m/\W (i+1) m' σ' H')/\∀x H',(Itl K a).yld i H x H'->g x σ H' λσ2 H2=>tb { D with nx:=N,ct:=N,bk:=D.nx } σ2 H2):=by
 refine⟨λi m σ H=>m=xs.length - i/\i<=xs.length/\Pv i σ H,⟨xs.length,by simp,qg2 _,h0⟩,?_⟩
 rintro i m σ H ⟨rfl,hi,p⟩
 have q:=hl i σ H hi p
 by_cases hlt:i<xs.length
 ·refine .inr ⟨⟨xs,xs[i],q,by simp[hlt]⟩,Pv (i+1),λσ' H' p'=>⟨xs.length - (i+1),by lia,rfl,hlt,p'⟩,λx H' y=>?_⟩
  obtain⟨e,y⟩:=y
  subst e
  exact hs i x σ _ (y xs q) p
 ·have e:i=xs.length:=by lia
  subst e
  exact .inl ⟨⟨xs,q,qfh _⟩,hd σ H p⟩
theorem for_range{lo:Int}{n:Nat}{g:TG}{tb:TS}{D:qcp}{σ:St}{H:Hp}(Pv:Nat->St->Hp->Prop)(h0:Pv 0 σ H)(hs:∀i σ H,i<n->Pv i σ H->g (.int (lo+i)) σ H λσ2 H2=>tb { D with nx:=Pv (i+1),ct:=Pv (i+1),bk:=D.nx } σ2 H2)(hd:∀σ H,Pv n σ H->D.nx σ H) :
  ∃W:Nat->Nat->St->Hp->Prop,(∃m,W 0 m σ H)/\∀i m σ H,W i m σ H ->
   ((Itr lo n).stop i H/\D.nx σ H)\/((Itr lo n).go i H/\∃N:St->Hp->Prop,(∀σ' H',N σ' H'->∃m',m'<m/\W (i+1) m' σ' H')/\∀x H',(Itr lo n).yld i H x H'->g x σ H' λσ2 H2=>tb { D with nx:=N,ct:=N,bk:=D.nx } σ2 H2):=by
 refine⟨λi m σ H=>m=n - i/\i<=n/\Pv i σ H,⟨n,by simp,qg2 _,h0⟩,?_⟩
 rintro i m σ H ⟨rfl,hi,p⟩
 by_cases hlt:i<n
 ·refine .inr ⟨hlt,Pv (i+1),λσ' H' p'=>⟨n - (i+1),by lia,rfl,hlt,p'⟩,λx H' y=>?_⟩
  obtain⟨e,y⟩:=y
  subst e y
  exact hs i σ _ hlt p
 ·have e:i=n:=by lia
  subst e
  exact .inl ⟨qfh _,hd σ H p⟩
abbrev R2:=V->V->Hp->VK->Prop
def OpR(X:Cx)(f:Value->Value->Sem Value)(r:R2):Prop:=
 ∀(pins:List (Addr×Obj))(s:Shared)(σ:St)(H:Hp)(x y:V)(v u:Value)(Q:VK),Inv X pins σ H s->RelV x v->RelV y u->r x y H Q ->
  wpAny (model X.prog X.w) X.A (f v u) (EP X pins σ Q) X.xe s
def UnR(X:Cx)(f:Value->Sem Value)(r:V->Hp->VK->Prop):Prop:=
 ∀(pins:List (Addr×Obj))(s:Shared)(σ:St)(H:Hp)(x:V)(v:Value)(Q:VK),Inv X pins σ H s->RelV x v->r x H Q ->
  wpAny (model X.prog X.w) X.A (f v) (EP X pins σ Q) X.xe s
def zmn(X:Cx)(f:Value)(r:List V->Hp->VK->Prop):Prop:=
 ∀(pins:List (Addr×Obj))(s:Shared)(σ:St)(H:Hp)(xs:List V)(us:List Value)(Q:VK),Inv X pins σ H s->Vals xs us->r xs H Q ->
  wpAny (model X.prog X.w) X.A (call f us) (EP X pins σ Q) X.xe s
def tOp(r:R2)(ta tb:TE):TE:=λσ H Q=>ta σ H λx H1=>tb σ H1 λy H2=>r x y H2 Q
def tUn(r:V->Hp->VK->Prop)(ta:TE):TE:=λσ H Q=>ta σ H λx H1=>r x H1 Q
def rI(C:Int->Int->Prop)(g:Int->Int->V):R2:=λx y H Q=>∃i j,x=.int i/\y=.int j/\C i j/\Q (g i j) H
def rI0(g:Int->Int->V):R2:=λx y H Q=>∃i j,x=.int i/\y=.int j/\Q (g i j) H
def rU(g:Int->V):V->Hp->VK->Prop:=λx H Q=>∃i,x=.int i/\Q (g i) H
section
variable{X:Cx}{a b c:Expr}{ta tb tc:TE}{pos:Pos}
theorem binT(ha:PE X a ta)(hb:PE X b tb){pins:List (Addr×Obj)}{s:Shared}{σ:St}{H:Hp}{R:V->V->Hp->Prop}(I:Inv X pins σ H s)(h:ta σ H λx H1=>tb σ H1 λy H2=>R x y H2){Q:Value->Shared->Prop}{f:Value->Value->Sem Value}(hf:∀v u s2 x y H2,Inv X pins σ H2 s2->RelV x v->RelV y u->R x y H2->wpAny (model X.prog X.w) X.A (f v u) Q X.xe s2) :
  wpAny (model X.prog X.w) X.A (eval a X.env) (λv s₁=>wpAny (model X.prog X.w) X.A (eval b X.env) (λu s₂=>wpAny (model X.prog X.w) X.A (f v u) Q X.xe s₂) X.xe s₁) X.xe s:=by
 refine thn (ha pins s σ H _ I h) λv s1 ⟨x,H1,I1,r1,q1⟩=>?_
 refine thn (hb pins s1 σ H1 _ I1 q1) λu s2 ⟨y,H2,I2,r2,q2⟩=>?_
 exact hf v u s2 x y H2 I2 r1 r2 q2
theorem za8{op:Operator}{r:R2}(ho:OpR X (binaryOp op) r)(ha:PE X a ta)(hb:PE X b tb):PE X (.BinOp a op b pos) (tOp r ta tb):=by
 intro pins s σ H Q I h
 exact wpAny_BinOp (binT ha hb I h λv u s2 x y H2 I2 rx ry q=>ho pins s2 σ H2 x y v u Q I2 rx ry q)
theorem zrb{op:UnaryOp}{r:V->Hp->VK->Prop}(ho:UnR X (unaryOp op) r)(ha:PE X a ta):PE X (.UnaryOp op a pos) (tUn r ta):=by
 intro pins s σ H Q I h
 exact UnaryOp_ (thn (ha pins s σ H _ I h) λv s1 ⟨x,H1,I1,r1,q1⟩=>ho pins s1 σ H1 x v Q I1 r1 q1)
theorem opI{f:Value->Value->Sem Value}{C:Int->Int->Prop}{g:Int->Int->Int}(rule:∀(i j:Int) (t u:Tok) (s:Shared) (Q:Value->Shared->Prop) (E:Value->Shared->Prop),C i j->Q (.int (g i j) s.toks) { s with toks:=s.toks+1 }->wpAny (model X.prog X.w) X.A (f (.int i t) (.int j u)) Q E s) :
  OpR X f (rI C λi j=>.int (g i j)):=by
 intro pins s σ H x y v u Q I rx ry h
 obtain⟨i,j,rfl,rfl,hc,q⟩:=h
 obtain⟨t,rfl⟩:=rx
 obtain⟨t',rfl⟩:=ry
 exact rule i j t t' s _ _ hc ⟨.int (g i j),H,I.tok _,⟨_,rfl⟩,q⟩
theorem opI0{f:Value->Value->Sem Value}{g:Int->Int->Int}(rule:∀(i j:Int) (t u:Tok) (s:Shared) (Q:Value->Shared->Prop) (E:Value->Shared->Prop),Q (.int (g i j) s.toks) { s with toks:=s.toks+1 }->wpAny (model X.prog X.w) X.A (f (.int i t) (.int j u)) Q E s) :
  OpR X f (rI0 λi j=>.int (g i j)):=by
 intro pins s σ H x y v u Q I rx ry h
 obtain⟨i,j,rfl,rfl,q⟩:=h
 obtain⟨t,rfl⟩:=rx
 obtain⟨t',rfl⟩:=ry
 exact rule i j t t' s _ _ ⟨.int (g i j),H,I.tok _,⟨_,rfl⟩,q⟩
theorem opB0{f:Value->Value->Sem Value}{g:Int->Int->Bool}(rule:∀(i j:Int) (t u:Tok) (s:Shared) (Q:Value->Shared->Prop) (E:Value->Shared->Prop),Q (.bool (g i j)) s->wpAny (model X.prog X.w) X.A (f (.int i t) (.int j u)) Q E s) :
  OpR X f (rI0 λi j=>.bl (g i j)):=by
 intro pins s σ H x y v u Q I rx ry h
 obtain⟨i,j,rfl,rfl,q⟩:=h
 obtain⟨t,rfl⟩:=rx
 obtain⟨t',rfl⟩:=ry
 exact rule i j t t' s _ _ ⟨.bl (g i j),H,I,rfl,q⟩
def CMul(i j:Int):Prop:=(-(2 ^ 64)<i/\i<2 ^ 64)\/(-(2 ^ 64)<j/\j<2 ^ 64)
theorem CMul.ok{i j:Int}(h:CMul i j):IntMulOk i j:=by
 rcases h with ⟨h1,h2⟩|⟨h1,h2⟩
 ·exact .of_left (intBits_le_64 h1 h2)
 ·exact .of_right (intBits_le_64 h1 h2)
theorem zb8:OpR X (binaryOp .Add) (rI0 λi j=>.int (i+j)):=opI0 λ_ _ _ _ _ _ _ q=>add_int q
theorem zkt:OpR X (binaryOp .Sub) (rI0 λi j=>.int (i - j)):=opI0 λ_ _ _ _ _ _ _ q=>sub_int q
theorem qcc:OpR X (binaryOp .Mult) (rI CMul λi j=>.int (i*j)):=opI λ_ _ _ _ _ _ _ hc q=>mul_int q hc.ok
theorem unI{f:Value->Sem Value}{g:Int->Int}(rule:∀(i:Int) (t:Tok) (s:Shared) (Q:Value->Shared->Prop) (E:Value->Shared->Prop),Q (.int (g i) s.toks) { s with toks:=s.toks+1 }->wpAny (model X.prog X.w) X.A (f (.int i t)) Q E s) :
  UnR X f (rU λi=>.int (g i)):=by
 intro pins s σ H x v Q I rx h
 obtain⟨i,rfl,q⟩:=h
 obtain⟨t,rfl⟩:=rx
 exact rule i t s _ _ ⟨.int (g i),H,I.tok _,⟨_,rfl⟩,q⟩
theorem zj9:UnR X (unaryOp .USub) (rU λi=>.int (-i)):=unI λ_ _ _ _ _ q=>neg_int q
end
def scal:V->V->Bool
 |.non,.non=>true|.non,.int _=>true|.int _,.non=>true|.non,.bl _=>true|.bl _,.non=>true|.non,.str _=>true|.str _,.non=>true
 |.int _,.int _=>true|.bl _,.bl _=>true|.str _,.str _=>true|.byt _,.byt _=>true
 |.int _,.str _=>true|.str _,.int _=>true|.bl _,.str _=>true|.str _,.bl _=>true
 |_,_=>false
def rEq:R2:=λx y H Q=>scal x y=true/\Q (.bl (decide (x=y))) H
def rNe:R2:=λx y H Q=>scal x y=true/\Q (.bl (!decide (x=y))) H
theorem zy3{i j:Int}:decide (V.int i=V.int j)=(i == j):=by
 rw[qgw]
 simp
theorem qck{i j:Bool}:decide (V.bl i=V.bl j)=(i == j):=by
 rw[qgw]
 simp
theorem zy2{i j:Str}:decide (V.str i=V.str j)=(i == j):=by
 rw[qgw]
 simp
theorem zy4{i j:Array UInt8}:decide (V.byt i=V.byt j)=(i.toList == j.toList):=by
 rw[qgw]
 cases i
 cases j
 simp
section
variable{X:Cx}{a b c:Expr}{ta tb tc:TE}{pos:Pos}
theorem zbe{pins:List (Addr×Obj)}{σ:St}{H:Hp}{s:Shared}{Q:VK}{k k':Bool}(I:Inv X pins σ H s)(q:Q (.bl k) H)(e:k=k'):EP X pins σ Q (.bool k') s:=by
 subst e
 exact⟨.bl k,H,I,rfl,q⟩
theorem zej:OpR X (compareOp .Eq) rEq:=by
 intro pins s σ H x y v u Q I rx ry h
 obtain⟨hs,q⟩:=h
 cases x with
 |non=>
  cases rx
  cases y with
  |non=>cases ry;exact PySem.EqNone.eq_none_none (zbe I q (by simp))
  |bl j=>cases ry;exact PySem.EqNone.eq_none_bool (zbe I q (by simp))
  |int j=>obtain⟨t',rfl⟩:=ry;exact PySem.EqNone.eq_none_int (zbe I q (by simp))
  |str j=>obtain⟨t',rfl⟩:=ry;exact PySem.EqNone.eq_none_str (zbe I q (by simp))
  |_=>exact absurd (show false=true from hs) qfu
 |bl i=>
  cases rx
  cases y with
  |non=>cases ry;exact PySem.EqNone.eq_bool_none (zbe I q (by simp))
  |bl j=>cases ry;exact eq_bool (zbe I q qck)
  |str j=>obtain⟨t',rfl⟩:=ry;exact PySem.EqMixed.eq_bool_str (zbe I q (by simp))
  |_=>exact absurd (show false=true from hs) qfu
 |int i=>
  obtain⟨t,rfl⟩:=rx
  cases y with
  |non=>cases ry;exact PySem.EqNone.eq_int_none (zbe I q (by simp))
  |int j=>obtain⟨t',rfl⟩:=ry;exact eq_int (zbe I q zy3)
  |str j=>obtain⟨t',rfl⟩:=ry;exact PySem.EqMixed.eq_int_str (zbe I q (by simp))
  |_=>exact absurd (show false=true from hs) qfu
 |str i=>
  obtain⟨t,rfl⟩:=rx
  cases y with
  |non=>cases ry;exact PySem.EqNone.eq_str_none (zbe I q (by simp))
  |bl j=>cases ry;exact PySem.EqMixed.eq_str_bool (zbe I q (by simp))
  |int j=>obtain⟨t',rfl⟩:=ry;exact PySem.EqMixed.eq_str_int (zbe I q (by simp))
  |str j=>obtain⟨t',rfl⟩:=ry;exact eq_str (zbe I q zy2)
  |_=>exact absurd (show false=true from hs) qfu
 |byt i=>
  obtain⟨t,rfl⟩:=rx
  cases y with
  |byt j=>obtain⟨t',rfl⟩:=ry;exact PySem.W.eq_bytes (zbe I q zy4)
  |_=>exact absurd (show false=true from hs) qfu
 |_=>cases y <;> exact absurd (show false=true from hs) qfu
theorem zpk:OpR X (compareOp .NotEq) rNe:=by
 intro pins s σ H x y v u Q I rx ry h
 obtain⟨hs,q⟩:=h
 cases x with
 |non=>
  cases rx
  cases y with
  |non=>cases ry;exact PySem.EqNone.ne_none_none (zbe I q (by simp))
  |bl j=>cases ry;exact PySem.EqNone.ne_none_bool (zbe I q (by simp))
  |int j=>obtain⟨t',rfl⟩:=ry;exact PySem.EqNone.ne_none_int (zbe I q (by simp))
  |str j=>obtain⟨t',rfl⟩:=ry;exact PySem.EqNone.ne_none_str (zbe I q (by simp))
  |_=>exact absurd (show false=true from hs) qfu
 |bl i=>
  cases rx
  cases y with
  |non=>cases ry;exact PySem.EqNone.ne_bool_none (zbe I q (by simp))
  |bl j=>cases ry;exact ne_bool (zbe I q (congrArg not qck))
  |str j=>obtain⟨t',rfl⟩:=ry;exact PySem.EqMixed.ne_bool_str (zbe I q (by simp))
  |_=>exact absurd (show false=true from hs) qfu
 |int i=>
  obtain⟨t,rfl⟩:=rx
  cases y with
  |non=>cases ry;exact PySem.EqNone.ne_int_none (zbe I q (by simp))
  |int j=>obtain⟨t',rfl⟩:=ry;exact ne_int (zbe I q (congrArg not zy3))
  |str j=>obtain⟨t',rfl⟩:=ry;exact PySem.EqMixed.ne_int_str (zbe I q (by simp))
  |_=>exact absurd (show false=true from hs) qfu
 |str i=>
  obtain⟨t,rfl⟩:=rx
  cases y with
  |non=>cases ry;exact PySem.EqNone.ne_str_none (zbe I q (by simp))
  |bl j=>cases ry;exact PySem.EqMixed.ne_str_bool (zbe I q (by simp))
  |int j=>obtain⟨t',rfl⟩:=ry;exact PySem.EqMixed.ne_str_int (zbe I q (by simp))
  |str j=>obtain⟨t',rfl⟩:=ry;exact ne_str (zbe I q (congrArg not zy2))
  |_=>exact absurd (show false=true from hs) qfu
 |byt i=>
  obtain⟨t,rfl⟩:=rx
  cases y with
  |byt j=>obtain⟨t',rfl⟩:=ry;exact PySem.W.ne_bytes (zbe I q (congrArg not zy4))
  |_=>exact absurd (show false=true from hs) qfu
 |_=>cases y <;> exact absurd (show false=true from hs) qfu
theorem op_lt:OpR X (compareOp .Lt) (rI0 λi j=>.bl (decide (i<j))):=opB0 λ_ _ _ _ _ _ _ q=>lt_int q
theorem op_le:OpR X (compareOp .LtE) (rI0 λi j=>.bl (decide (i<=j))):=opB0 λ_ _ _ _ _ _ _ q=>le_int q
theorem znt:OpR X (compareOp .Gt) (rI0 λi j=>.bl (decide (j<i))):=opB0 λ_ _ _ _ _ _ _ q=>gt_int q
theorem qdz:OpR X (compareOp .GtE) (rI0 λi j=>.bl (decide (j<=i))):=opB0 λ_ _ _ _ _ _ _ q=>ge_int q
theorem zaz(b:Expr){op:CmpOp}(h:op≠.In:=by decide)(h2:op≠.NotIn:=by decide):behindInMarks op b=false:=by
 have e1:(op == CmpOp.In)=false:=by cases op <;> first|rfl|exact absurd rfl h
 have e2:(op == CmpOp.NotIn)=false:=by cases op <;> first|rfl|exact absurd rfl h2
 cases b <;> simp[behindInMarks,e1,e2]
theorem zie{op:CmpOp}{r:R2}(ho:OpR X (compareOp op) r)(ha:PE X a ta)(hb:PE X b tb)(hm:behindInMarks op b=false):PE X (.Compare a [op] [b] pos) (tOp r ta tb):=by
 intro pins s σ H Q I h
 exact wpAny_Compare1 (binT ha hb I h λv u s2 x y H2 I2 rx ry q=>ho pins s2 σ H2 x y v u Q I2 rx ry q) hm
def tTest(t:TE):TT:=λσ H Q=>t σ H λx H'=>∃k,x=.bl k/\Q k H'
theorem zar{op:CmpOp}{r:R2}(ho:OpR X (compareOp op) r)(ha:PE X a ta)(hb:PE X b tb)(hm:behindInMarks op b=false):PT X (.Compare a [op] [b] pos) (tTest (tOp r ta tb)):=by
 intro pins s σ H Q I h
 refine wpAny_isTrue_Compare1 (thn (ha pins s σ H _ I h) λv s1 ⟨x,H1,I1,r1,q1⟩=>thn (hb pins s1 σ H1 _ I1 q1) λu s2 ⟨y,H2,I2,r2,q2⟩=>
  thn (ho pins s2 σ H2 x y v u _ I2 r1 r2 q2) λc s3 ⟨z,H3,I3,r3,k,e,q3⟩=>?_) hm
 subst e
 cases r3
 exact wpAny_truthy_bool ⟨H3,I3,q3⟩
theorem zna:(sizeLine:Nat)<2 ^ 63:=by rw[sizeLine_eq];decide
theorem zih:OpR X (binaryOp .Add) (λx y H Q=>∃i j,x=.str i/\y=.str j/\i.length+j.length<=sizeLine/\Q (.str (i++j)) H):=by
 intro pins s σ H x y v u Q I rx ry h
 obtain⟨i,j,rfl,rfl,hz,q⟩:=h
 obtain⟨t,rfl⟩:=rx
 obtain⟨t',rfl⟩:=ry
 exact add_str (λt' tk=>⟨.str (i++j),H,I.tok _,⟨_,rfl⟩,q⟩) hz
theorem qcv{x:V}{us:List Value}(r:Vals [x] us):∃u,us=[u]/\RelV x u:=by
 cases r with
 |cons r1 r2=>cases r2;exact⟨_,rfl,r1⟩
theorem qbt:zmn X (.builtin "ord") (λxs H Q=>∃x,xs=[.str x]/\x.length=1/\Q (.int (x.cps.getD 0 0:Nat)) H):=by
 intro pins s σ H xs us Q I r h
 obtain⟨x,rfl,hz,q⟩:=h
 obtain⟨u,rfl,t,rfl⟩:=qcv r
 exact ord_of_one hz ⟨.int _,H,I.tok _,⟨_,rfl⟩,q⟩
end
structure ObjM(h:Heap)(x dx C:Addr)(mA:Str->Option Value):Prop where
 obj:h.get? x=some (qhn C dx)
 ns:h.Ns1 dx mA
 ne:dx≠x
theorem zk3{h:Heap}{dx:Addr}{mA:Str->Option Value}(n:h.Ns1 dx mA):∃od,h.get? dx=some od/\∀name,qji name od=some (mA name):=by
 obtain⟨o,es,ep,ho,hd,hk,_,hm⟩:=n
 refine⟨o,ho,λname=>?_⟩
 have e:=hm name
 unfold nsFind findBy at e
 rw[<-Array.find?_toList]at e
 unfold qji
 rw[hd]
 dsimp only
 split
 ·rename_i y q
  rw[q]at e
  exact congrArg some e
 ·rename_i q
  rw[q]at e
  have a:es.toList.any (·.refKey)=false:=by
   rw[List.any_eq_false]
   intro y hy
   obtain⟨z,t,hkey⟩:=hk y (Array.mem_toList_iff.mp hy)
   simp[DictEntry.refKey,hkey]
  have a':¬es.toList.any (·.refKey)=true:=by rw[a];exact qfu
  rw[if_neg a']
  exact congrArg some e
theorem ObjM.look{h:Heap}{x dx C:Addr}{mA:Str->Option Value}(I:ObjM h x dx C mA):∃od,PySem.W.InstAt h x (qhn C dx) C (some od)/\∀name,qji name od=some (mA name):=
 let ⟨od,ho,hl⟩:=zk3 I.ns
 ⟨od,⟨I.obj,rfl,rfl,ho⟩,hl⟩
section
variable{prog:Program}{w:World}{A:Around}{E:Value->Shared->Prop}{s:Shared}{K:qfa}{x dx C f:Addr}{mA:Str->Option Value}{name:Str}{v:Value}
theorem qet{expr:Bool}{Q:Value->Shared->Prop}(X:K.In s.heap)(I:ObjM s.heap x dx C mA)(hg:qi6 K C name=true)(hh:qh7 K C=true)(ha:qfp K (.ref C) name=some none)(hv:mA name=some v)(hv':qjx v=true)(h:Q v { s with toks:=s.toks+1 }) :
  wpAny (model prog w) A (getAttr (.ref x) name expr) Q E s:=by
 obtain⟨od,J,hl⟩:=I.look
 exact PySem.W.get_value X J (qjc hg).1 (qki hh ha rfl (by rw[hl,hv])) hv' h
theorem qbq{pl:Sem Bool}{Q:Value×List Value->Shared->Prop}(X:K.In s.heap)(I:ObjM s.heap x dx C mA)(hg:qi6 K C name=true)(hf:qfp K (.ref C) name=some (some (.ref f)))(ht:qin K (.ref f)=true)(hv:mA name=none)(h:Q (.ref f,[.ref x]) s) :
  wpAny (model prog w) A (getMethod (.ref x) name pl) Q E s:=by
 obtain⟨od,J,hl⟩:=I.look
 exact PySem.W.method_fn X J (qjc hg).1 (qjc hg).2 hf (beq_iff_eq.mp ht) (by show (qji name od).map (·.isSome)=some false;rw[hl,hv];rfl) h
theorem qdl{ns:List Str}{Q:Unit->Shared->Prop}(X:K.In s.heap)(I:ObjM s.heap x dx C mA)(hs:qfp K (.ref C) "__setattr__"=some (some (.builtin "object.__setattr__")))(hp:PySem.W.plainOver K C=true)(ht:qj8 K C name=some none)(hh:qh7 K C=true)(hw:PySem.Within mA ns)(hsz:ns.length<=sizeLine)(h:∀h',ObjM h' x dx C (λy=>if y=name then some v else mA y)->Heap.SameBut dx s.heap h'->Q () { s with heap:=h',toks:=s.toks+2 }) :
  wpAny (model prog w) A (setAttr (.ref x) name v) Q E s:=by
 obtain⟨od,J,hl⟩:=I.look
 refine qjo X J hs (PySem.W.osa_open (s:={ s with toks:=s.toks+1 }) (r:=none) X J hp ht λb=>?_)
 obtain⟨cd,hc,hd'⟩:=PySem.W.any_some hh
 have hx:s.heap.get? x=some ⟨.ref C,some dx,.plain,#[]⟩:=I.obj
 refine wpAny_bind (wpAny_pure (wpAny_bind (wpAny_bind (wpAny_loadPart hx (wpAny_bind (PySem.W.Looks.here (s:={ s with toks:=s.toks+1 }) (qil X hc) ?_))))))
 rw[hd']
 refine wpAny_pure (a:=some dx) (wpAny_bind (wpAny_pure (wpAny_bind ?_)))
 refine wpAny_nsSet1 (s:={ s with toks:=s.toks+1 }) I.ns λh' hn2 hs2=>?_
 obtain⟨oD,esD,epD,hoD,hdD,hcD⟩:=hn2.count (PySem.Within.cons name v hw)
 refine wpAny_bind (wpAny_lookBehind hoD (by rw[hdD];exact pastItsLine_dict (qgn hcD (by rw[qfd];lia))) ?_)
 exact wpAny_pure (h _ ⟨(hs2.2 _ (Ne.symm I.ne)).trans I.obj,hn2,I.ne⟩ hs2)
theorem qbh{R:Result->Shared->Prop}{vs:List Value}{kw:List (Str×Value)}(X:K.In s.heap)(hm:qj9 K C=true)(hi:qfp K (.ref C) "__init__"=some (some (.ref f)))(hf:PySem.W.typeIn K (.ref f)=some (.type "function"))(h:codeAny (model prog w) (A.under (.builtin "type.__call__" ⟨.ref C::vs,kw⟩)) (.call (.ref f) ⟨.ref (s.heap.objs.size+1)::vs,kw⟩) (PySem.W.InitBack (s.heap.objs.size+1) R)
   { s with heap:=(s.heap.push qg8).push (qhn C s.heap.objs.size) }) :
  codeAny (model prog w) A (.call (.ref C) ⟨vs,kw⟩) R s:=by
 obtain⟨hh,g,d,t,os⟩:=s
 exact PySem.W.make_core (PySem.W.makes_of X hm) (qh9 X hi) (λself=>PySem.W.bind_fn X self hf) (.inl rfl) h
end
def zmz(f:Str)(v:V):List (Str×V)->List (Str×V)
 |[]=>[(f,v)]
 |(g,x)::r=>if g=f then (g,v)::r else (g,x)::zmz f v r
theorem zg0(f g:Str)(v:V):∀fs:List (Str×V),(zmz f v fs).lookup g=if g=f then some v else fs.lookup g
 |[]=>by
  show qim g [(f,v)]=_
  by_cases h:g=f
  ·have hb:(g == f)=true:=beq_iff_eq.mpr h
   simp only[qim,hb,if_pos h]
  ·have hb:(g == f)=false:=beq_eq_false_iff_ne.mpr h
   simp only[qim,hb,if_neg h]
 |(k,x)::r=>by
  have ih:=zg0 f g v r
  rw[show zmz f v ((k,x)::r)=(if k=f then (k,v)::r else (k,x)::zmz f v r) from rfl]
  by_cases hk:k=f
  ·rw[if_pos hk]
   by_cases h:g=k
   ·have hb:(g == k)=true:=beq_iff_eq.mpr h
    simp only[qim,hb,if_pos (h.trans hk)]
   ·have hb:(g == k)=false:=beq_eq_false_iff_ne.mpr h
    simp only[qim,hb,if_neg (λe:g=f=>h (e.trans hk.symm))]
  ·rw[if_neg hk]
   by_cases h:g=k
   ·have hb:(g == k)=true:=beq_iff_eq.mpr h
    simp only[qim,hb,if_neg (λe:g=f=>hk (h.symm.trans e))]
   ·have hb:(g == k)=false:=beq_eq_false_iff_ne.mpr h
    simp only[qim,hb]
    exact ih
theorem zlc(f:Str)(v:V):∀fs:List (Str×V),f∈(zmz f v fs).map (·.1)/\∀g,g∈fs.map (·.1)->g∈(zmz f v fs).map (·.1)
 |[]=>⟨by simp[zmz],λg h=>by simp at h⟩
 |(k,x)::r=>by
  obtain⟨i1,i2⟩:=zlc f v r
  rw[show zmz f v ((k,x)::r)=(if k=f then (k,v)::r else (k,x)::zmz f v r) from rfl]
  by_cases hk:k=f
  ·rw[if_pos hk]
   subst hk
   exact⟨by simp,λg h=>by simpa using h⟩
  ·rw[if_neg hk]
   refine⟨?_,λg h=>?_⟩
   ·rw[qge]
    exact qf8 _ i1
   ·rw[qge]at h ⊢
    rcases qfo.mp h with e|e
    ·exact qfo.mpr (.inl e)
    ·exact qf8 _ (i2 g e)
theorem zk8(f:Str)(v:V):∀fs:List (Str×V),(zmz f v fs).length<=fs.length+1
 |[]=>by simp[zmz]
 |(k,x)::r=>by
  have ih:=zk8 f v r
  rw[show zmz f v ((k,x)::r)=(if k=f then (k,v)::r else (k,x)::zmz f v r) from rfl]
  by_cases hk:k=f
  ·rw[if_pos hk,qfd,qfd];lia
  ·rw[if_neg hk,qfd,qfd];lia
theorem RelO.some_of{v:V}{o:Option Value}(r:RelO (some v) o):∃u,o=some u/\RelV v u:=by
 cases o with
 |none=>exact (show False from r).elim
 |some u=>exact⟨u,rfl,r⟩
theorem RelO.none_of{o:Option Value}(r:RelO none o):o=none:=by
 cases o with
 |none=>rfl
 |some u=>exact (show False from r).elim
theorem zp0{v:V}{u:Value}(r:RelV v u):qjx u=true:=by
 cases v with
 |non=>cases (show u=Value.none from r);rfl
 |bl b=>cases (show u=Value.bool b from r);rfl
 |int i=>obtain⟨t,e⟩:=(show ∃t,u=Value.int i t from r);cases e;rfl
 |str x=>obtain⟨t,e⟩:=(show ∃t,u=Value.str x t from r);cases e;rfl
 |byt b=>obtain⟨t,e⟩:=(show ∃t,u=Value.bytes b t from r);cases e;rfl
 |flt b=>obtain⟨t,e⟩:=(show ∃t,u=Value.float b t from r);cases e;rfl
 |ref a=>cases (show u=Value.ref a from r);rfl
 |ty n=>cases (show u=Value.type n from r);rfl
section
variable{P:Program}{w:World}{H H':Hp}{h h':Heap}{a C dx:Addr}{fs fs':List (Str×V)}
theorem zrx(hok:HOk P w H h)(e:H a=some (.ins C dx fs)):∃mA,ObjM h a dx C mA/\(∀f,RelO (fs.lookup f) (mA f))/\PySem.Within mA (fs.map (·.1))/\fs.length<=1000/\H dx=some (.own a):=by
 obtain⟨d,z,ne,ob,mA,n,r,q⟩:=(show ObjOk P w H h a (.ins C dx fs) from hok a _ e)
 exact⟨mA,⟨ob,n,ne⟩,r,q,z,d⟩
end
structure Cls(K:qfa)(C:Addr):Prop where
 pg:qi6 K C Str.empty=true
 hd:qh7 K C=true
 po:PySem.W.plainOver K C=true
 sa:qfp K (.ref C) "__setattr__"=some (some (.builtin "object.__setattr__"))
theorem Cls.get{K:qfa}{C:Addr}(c:Cls K C)(f:Str):qi6 K C f=true:=c.pg
def NoAttr(K:qfa)(C:Addr)(f:Str):Prop:=qfp K (.ref C) f=some none
theorem NoAttr.taker{K:qfa}{C:Addr}{f:Str}(n:NoAttr K C f):qj8 K C f=some none:=by
 unfold qj8
 rw[show qfp K (.ref C) f=some none from n]
 rfl
structure Meth(K:qfa)(C:Addr)(m:Str)(f:Addr):Prop where
 at_:qfp K (.ref C) m=some (some (.ref f))
 fn:qin K (.ref f)=true
 kp:qgp K (.ref f)=true
section
variable{X:Cx}{pins:List (Addr×Obj)}{σ:St}{H:Hp}{s:Shared}{a C dx:Addr}{fs:List (Str×V)}{f:Str}{v:V}{A:Around}{E:Value->Shared->Prop}
theorem zvf{b:Bool}{Q:Value->Shared->Prop}(I:Inv X pins σ H s)(e:H a=some (.ins C dx fs))(c:Cls X.K C)(n:NoAttr X.K C f)(l:fs.lookup f=some v)(h:∀u s',Inv X pins σ H s'->RelV v u->Q u s'):wpAny (model X.prog X.w) A (getAttr (.ref a) f b) Q E s:=by
 obtain⟨mA,O,r,_,_,_⟩:=zrx I.hok e
 obtain⟨u,hu,ru⟩:=RelO.some_of (v:=v) (o:=mA f) (by rw[<-l];exact r f)
 exact qet I.kIn O (c.get f) c.hd n hu (zp0 ru) (h u _ (I.tok _) ru)
theorem zir{m:Str}{g:Addr}{pl:Sem Bool}{Q:Value×List Value->Shared->Prop}(I:Inv X pins σ H s)(e:H a=some (.ins C dx fs))(c:Cls X.K C)(k:Meth X.K C m g)(l:fs.lookup m=none)(h:Q (.ref g,[.ref a]) s):wpAny (model X.prog X.w) A (getMethod (.ref a) m pl) Q E s:=by
 obtain⟨mA,O,r,_,_,_⟩:=zrx I.hok e
 have hn:mA m=none:=RelO.none_of (by rw[<-l];exact r m)
 exact qbq I.kIn O (c.get m) k.at_ k.fn hn h
theorem zuq{y:V}{u:Value}{Q:Unit->Shared->Prop}(I:Inv X pins σ H s)(e:H a=some (.ins C dx fs))(c:Cls X.K C)(n:NoAttr X.K C f)(hl:fs.length<1000)(ry:RelV y u)(h:∀s',Inv X pins σ (upd H a (.ins C dx (zmz f y fs))) s'->Q () s'):wpAny (model X.prog X.w) A (setAttr (.ref a) f u) Q E s:=by
 obtain⟨mA,O,r,wi,_,ho⟩:=zrx I.hok e
 have hz:(fs.map (·.1)).length<=sizeLine:=by rw[qe9,sizeLine_eq];lia
 refine qdl I.kIn O c.sa c.po n.taker c.hd wi hz λh' O' sb=>h _ ?_
 have hd:∃o,h'.get? dx=some o:=let ⟨o,_,_,e',_⟩:=O'.ns;⟨o,e'⟩
 refine I.write (x:=a) (e:=dx) (by rw[e];exact True.intro) (.inr ho) (λb q hb z=>(sb.2 b hb).trans z) hd ?_
 refine⟨by rw[zai O.ne];exact ho,?_,O.ne,O'.obj,_,O'.ns,λg=>?_,λg hg=>?_⟩
 ·have:=zk8 f y fs;lia
 ·show RelO ((zmz f y fs).lookup g) (if g=f then some u else mA g)
  rw[zg0]
  by_cases q:g=f
  ·rw[if_pos q,if_pos q];exact ry
  ·rw[if_neg q,if_neg q];exact r g
 ·by_cases q:g=f
  ·rw[q];exact (zlc f y fs).1
  ·refine (zlc f y fs).2 g (wi g λz=>hg ?_)
   show (if g=f then some u else mA g)=none
   rw[if_neg q];exact z
theorem Inv.made(I:Inv X pins σ H s):Inv X pins σ (upd (upd H s.heap.objs.size (.own (s.heap.objs.size+1))) (s.heap.objs.size+1) (.ins C s.heap.objs.size []))
  { s with heap:=(s.heap.push qg8).push (qhn C s.heap.objs.size) }:=by
 have e1:(s.heap.push qg8).get? s.heap.objs.size=some qg8:=Heap.get?_push_size s.heap rfl
 have e2:((s.heap.push qg8).push (qhn C s.heap.objs.size)).get? (s.heap.objs.size+1)=some (qhn C s.heap.objs.size):=by
  have:=Heap.get?_push_size (s.heap.push qg8) (o:=qhn C s.heap.objs.size) rfl
  rwa [Heap.size_push]at this
 have e3:(s.heap.push qg8).Ns s.heap.objs.size (λ_=>none):=⟨qg8,#[],_,e1,rfl,(λe he=>absurd he (by simp)),λ_=>rfl⟩
 have I1:=I.laid (a:=s.heap.objs.size) (o:=.own (s.heap.objs.size+1)) (h':=s.heap.push qg8) (t':=s.toks) (λb u q=>Heap.get?_push_of_some _ q) (qfh _) ⟨_,e1⟩
 refine I1.laid (a:=s.heap.objs.size+1) (o:=.ins C s.heap.objs.size []) (t':=s.toks) (λb u q=>Heap.get?_push_of_some _ q) (qh2 (Heap.size_push _ _)) ?_
 have ne:s.heap.objs.size≠s.heap.objs.size+1:=qf6 (qjy _)
 refine⟨by rw[zai ne,zac],qg2 _,ne,e2,λ_=>none,(Heap.Ns1.of_empty e3).at λo q=>Heap.get?_push_of_some _ q,λ_=>True.intro,λy hy=>absurd rfl hy⟩
theorem zzf{prog:Program}{w:World}{env:Env}{e:Expr}{f:Str}{pos:Pos}{s:Shared}{Q:Value->Shared->Prop}(hb:attributeBase e f env (eval e env)=eval e env)(h:wpAny (model prog w) A (eval e env) (λo s₁=>wpAny (model prog w) A (getAttr o f true) Q E s₁) E s):wpAny (model prog w) A (eval (.Attribute e f pos) env) Q E s:=
 Attribute_any_ h (by rw[arm_eval_Attribute,hb])
end
def tFld(K:qfa)(ta:TE)(f:Str):TE:=λσ H Q=>ta σ H λx H1=>∃a C dx fs v,x=.ref a/\H1 a=some (.ins C dx fs)/\Cls K C/\NoAttr K C f/\fs.lookup f=some v/\Q v H1
def sFld(K:qfa)(ta tv:TE)(f:Str):TS:=λD σ H=>tv σ H λy H1=>ta σ H1 λx H2=>∃a C dx fs,x=.ref a/\H2 a=some (.ins C dx fs)/\Cls K C/\NoAttr K C f/\fs.length<1000 ∧
 D.nx σ (upd H2 a (.ins C dx (zmz f y fs)))
section
variable{X:Cx}{o e value:Expr}{f:Str}{pos pos' tpos:Pos}{ta tv:TE}
theorem zas(he:PE X e ta)(hb:attributeBase e f X.env (eval e X.env)=eval e X.env):PE X (.Attribute e f pos) (tFld X.K ta f):=by
 intro pins s σ H Q I h
 refine zzf hb (thn (he pins s σ H _ I h) λu s1 ⟨x,H1,I1,rx,a,C,dx,fs,v,ex,ea,c,n,l,q⟩=>?_)
 subst ex
 obtain rfl:u=Value.ref a:=rx
 exact zvf I1 ea c n l λu' s2 I2 ru=>⟨v,H1,I2,ru,q⟩
theorem zb7(ha:PE X o ta)(hv:PE X value tv)(hs:swapsWith value (some (.Attribute o f pos')) pos.line X.env=pure false):PS X (.Assign [.Attribute o f pos'] value pos) (sFld X.K ta tv f):=by
 intro pins s σ H D I h
 refine plainObj_wpAny_Assign_Attribute (thn (hv pins s σ H _ I h) λu s1 ⟨y,H1,I1,ry,q⟩=>thn (ha pins s1 σ H1 _ I1 q) λov s2 ⟨x,H2,I2,rx,a,C,dx,fs,ex,ea,c,n,l,q2⟩=>?_) hs
 subst ex
 obtain rfl:ov=Value.ref a:=rx
 exact zuq I2 ea c n l ry λs3 I3=>⟨σ,_,I3,q2⟩
end
structure Room(k:Nat)(A:Around):Prop where
 hd:A.handled=none
 dp:A.depth+2*k+5<recursionLimit
 un:A.units+16*k+200<cLine
theorem Room.mono{j k:Nat}{A:Around}(r:Room k A)(h:j<=k):Room j A:=⟨r.hd,by have:=r.dp;lia,by have:=r.un;lia⟩
theorem Room.deeper{k:Nat}{A:Around}(r:Room (k+1) A)(env:Env):Room k (A.deeper env):=
 ⟨r.hd,by have:=r.dp;show A.depth+1+2*k+5<_;lia,by have:=r.un;show A.units+3+16*k+200<_;lia⟩
theorem zu9{A:Around}{C:Addr}{us:List Value}{kw:List (Str×Value)}:(A.under (.builtin "type.__call__" ⟨.ref C::us,kw⟩)).depth=A.depth+1:=by
 first|rfl|simp[Around.under,Code.weight,Code.isCreation,Code.isGuard,Code.isCaller,Code.frames,Code.isFrame,guardIds]
theorem zu8{A:Around}{C:Addr}{us:List Value}{kw:List (Str×Value)}:(A.under (.builtin "type.__call__" ⟨.ref C::us,kw⟩)).units=A.units+1:=by
 first|rfl|simp[Around.under,Code.cUnits,Code.frames,Code.isFrame]
theorem Room.make{k:Nat}{A:Around}(r:Room (k+1) A)(C:Addr)(us:List Value)(kw:List (Str×Value)):Room k (A.under (.builtin "type.__call__" ⟨.ref C::us,kw⟩)):=
 ⟨r.hd,by have:=r.dp;rw[zu9];lia,by have:=r.un;rw[zu8];lia⟩
theorem Room.depth{k:Nat}{A:Around}(r:Room k A):A.depth<recursionLimit:=by have:=r.dp;lia
theorem Room.units{k:Nat}{A:Around}(r:Room k A):A.units+64<cLine:=by have:=r.un;lia
def qcz:TA:=λ_ H Q=>Q [] H
def zz0(ta:TE)(tr:TA):TA:=λσ H Q=>ta σ H λx H1=>tr σ H1 λxs H2=>Q (x::xs) H2
section
variable{X:Cx}{e:Expr}{es:List Expr}{te:TE}{t:TA}{pos:Pos}
theorem zae:PA X [] qcz:=λ_ _ _ _ H Q I h=>Calls.spliced_nil ⟨[],H,I,.nil,h⟩
theorem zaa(ha:PE X e te)(hr:PA X es t)(hs:starEach (e::es) X.env=(false,eval e X.env)::starEach es X.env:=by rfl):PA X (e::es) (zz0 te t):=by
 intro pos pins s σ H Q I h
 rw[hs]
 show wpAny _ _ (spliced ((false,eval e X.env)::backTo pos (starEach es X.env))) _ _ s
 refine Calls.spliced_cons (thn (ha pins s σ H _ I h) λu s1 ⟨x,H1,I1,r1,q1⟩=>?_)
 exact thn (hr pos pins s1 σ H1 _ I1 q1) λus s2 ⟨xs,H2,I2,r2,q2⟩=>⟨x::xs,H2,I2,.cons r1 r2,q2⟩
def tTup(t:TA):TE:=λσ H Q=>t σ H λxs H1=>xs.length<=sizeLine/\∀p,H1 p=none->Q (.ref p) (upd H1 p (.tup xs))
def tLst(t:TA):TE:=λσ H Q=>t σ H λxs H1=>xs.length<=sizeLine/\∀p,H1 p=none->Q (.ref p) (upd H1 p (.lst xs))
theorem zkr{x1}(h:PA X es t):PE X (.Tuple es x1 pos) (tTup t):=by
 intro pins s σ H Q I hq
 refine wpAny_Tuple_spliced (thn (h pos pins s σ H _ I hq) λus s1 ⟨xs,H1,I1,r,z,q⟩=>⟨by rw[<-r.length];exact z,?_⟩)
 have hf:H1 s1.heap.objs.size=none:=I1.hok.fresh (qfh _)
 refine⟨.ref s1.heap.objs.size,upd H1 s1.heap.objs.size (.tup xs),I1.laid (t':=s1.toks) (λb u e=>Heap.get?_push_of_some _ e) (qfh _) ?_,rfl,q _ hf⟩
 exact⟨z,us,r,⟨_,Heap.get?_push_size _ rfl,rfl,_,rfl⟩⟩
theorem zbm(h:PA X es t):PE X (.List es pos) (tLst t):=by
 intro pins s σ H Q I hq
 refine wpAny_List_spliced (thn (h pos pins s σ H _ I hq) λus s1 ⟨xs,H1,I1,r,z,q⟩=>⟨by rw[<-r.length];exact z,?_⟩)
 have hf:H1 s1.heap.objs.size=none:=I1.hok.fresh (qfh _)
 refine⟨.ref s1.heap.objs.size,upd H1 s1.heap.objs.size (.lst xs),I1.laid (t':=s1.toks) (λb u e=>Heap.get?_push_of_some _ e) (qfh _) ?_,rfl,q _ hf⟩
 exact⟨z,us,0,r,Heap.get?_push_size _ rfl⟩
end
abbrev Sp:=List V->Hp->VK->XK->Prop
abbrev CXT:=List Env->Hp->Shared->XK->Value->Shared->Prop
structure Env0(P:Program)(w:World)(K:qfa)(mg:Str->Option Value)(base:Heap)(A:Around)(outer:List Env)(s:Shared)(H:Hp):Prop where
 frames:A.frames=some outer
 mod:Mod K mg base
 bs:∀b o,base.get? b=some o->s.heap.get? b=some o/\H b=none
 bsz:base.objs.size<=s.heap.objs.size
 funs:s.heap.FunFrames base outer
 frf:∀b∈frs outer,H b=none
 hok:HOk P w H s.heap
 bare:AllBare s.gens
def CE(outer:List Env)(P:Program)(w:World)(H:Hp)(s:Shared)(Q:VK)(u:Value)(s':Shared):Prop:=
 ∃v H',s'.os=s.os/\AllBare s'.gens/\Un (frs outer) [] H H' s.heap s'.heap/\HOk P w H' s'.heap/\RelV v u/\Q v H'
def CR(CX:CXT)(outer:List Env)(P:Program)(w:World)(H:Hp)(s:Shared)(Q:VK)(E:XK)(r:Result)(s':Shared):Prop:=
 match r with
 |.ok (.ret u)=>CE outer P w H s Q u s'
 |.ok _=>False
 |.error e=>CX outer H s E e s'
structure FnOk(P:Program)(w:World)(K:qfa)(mg:Str->Option Value)(base:Heap)(CX:CXT)(k:Nat)(f:Addr)(fd:FuncData)(ps:List Str)(sp:Sp):Prop where
 len:∀vs H Q E,sp vs H Q E->vs.length=ps.length
 run:∀(A:Around)(outer:List Env)(s:Shared)(H:Hp)(args:Args)(us:List Value)(vs:List V)(Q:VK)(E:XK),Room k A->Env0 P w K mg base A outer s H->BindsTo s fd args (ps.zip us)->Vals vs us->sp vs H Q E ->
  codeAny (model P w) A (.call (.ref f) args) (CR CX outer P w H s Q E) s
theorem FnOk.mono{P:Program}{w:World}{K:qfa}{mg:Str->Option Value}{base:Heap}{CX:CXT}{j k:Nat}{f:Addr}{fd:FuncData}{ps:List Str}{sp:Sp}(F:FnOk P w K mg base CX j f fd ps sp)(h:j<=k) :
  FnOk P w K mg base CX k f fd ps sp:=⟨F.len,λA outer s H args us vs Q E hr=>F.run A outer s H args us vs Q E (hr.mono h)⟩
theorem FnOk.imp{P:Program}{w:World}{K:qfa}{mg:Str->Option Value}{base:Heap}{CX:CXT}{k:Nat}{f:Addr}{fd:FuncData}{ps:List Str}{sp sp':Sp}(F:FnOk P w K mg base CX k f fd ps sp)(h:∀vs H Q E,sp' vs H Q E->sp vs H Q E):FnOk P w K mg base CX k f fd ps sp':=
 ⟨λvs H Q E q=>F.len vs H Q E (h _ _ _ _ q),λA outer s H args us vs Q E hr he hb hv hs=>F.run A outer s H args us vs Q E hr he hb hv (h _ _ _ _ hs)⟩
theorem Env0.make{P:Program}{w:World}{K:qfa}{mg:Str->Option Value}{base:Heap}{A:Around}{outer:List Env}{s:Shared}{H:Hp}(e:Env0 P w K mg base A outer s H)(C:Addr)(us:List Value)(kw:List (Str×Value)) :
  Env0 P w K mg base (A.under (.builtin "type.__call__" ⟨.ref C::us,kw⟩)) outer s H:=⟨by first|exact e.frames|(simpa [Around.under,Code.envs,Code.isFrame,pushEnvs] using e.frames),e.mod,e.bs,e.bsz,e.funs,e.frf,e.hok,e.bare⟩
section
variable{X:Cx}{pins:List (Addr×Obj)}{σ:St}{H:Hp}{s s':Shared}
theorem Inv.env0(I:Inv X pins σ H s):Env0 X.prog X.w X.K X.mg X.base X.A X.stack s H:=
 ⟨I.ok.frames,I.ok.mod,I.bs,qgn I.ok.bsz I.sz,I.stack,I.stkFree,I.hok,I.bare⟩
theorem Inv.after{Q:VK}{u:Value}(I:Inv X pins σ H s)(h:CE X.stack X.prog X.w H s Q u s'):EP X pins σ Q u s':=by
 obtain⟨v,H',os,bare,un,hok,r,q⟩:=h
 obtain⟨hh,g,d,t,os'⟩:=s'
 obtain rfl:os'=s.os:=os
 exact⟨v,H',I.call (h':=hh) (g':=g) (d':=d) (t':=t) (ch:=[]) un hok bare (λb z=>absurd z (by simp)),r,q⟩
end
def tCall(sp:Sp)(dvs:List V)(E:XK)(t:TA):TE:=λσ H Q=>t σ H λvs H1=>sp (vs++dvs) H1 Q E
def Binds(K:qfa)(fd:FuncData)(ps:List Str)(ds:List Value):Prop:=
 ∀(s:Shared)(us:List Value),K.In s.heap->(us++ds).length=ps.length->BindsTo s fd ⟨us,[]⟩ (ps.zip (us++ds))
theorem Binds.all{K:qfa}{fd:FuncData}{ps:List Str}(h:∀us:List Value,us.length=ps.length->bindArgs fd ⟨us,[]⟩=pure (ps.zip us)):Binds K fd ps []:=λs us _ hl=>by
 rw[qgb]at hl ⊢
 exact .of_eq (h us hl)
def zub(CX:CXT)(X:Cx)(E:XK):Prop:=∀(pins:List (Addr×Obj))(σ:St)(H:Hp)(s:Shared)(e:Value)(s':Shared),Inv X pins σ H s->CX X.stack H s E e s'->X.xe e s'
section
variable{X:Cx}{CX:CXT}{k:Nat}{f C:Addr}{fd:FuncData}{ps:List Str}{sp:Sp}{dvs:List V}{ds:List Value}{E:XK}{x m:Str}{p pos apos:Pos}{e o:Expr}{es:List Expr}{ta:TE}{t:TA}
theorem zmv{pins:List (Addr×Obj)}{σ:St}{H:Hp}{s:Shared}{Q:VK}{us:List Value}{vs:List V}(F:FnOk X.prog X.w X.K X.mg X.base CX k f fd ps sp)(hr:Room k X.A)(hb:Binds X.K fd ps ds)(hd:Vals dvs ds)(hx:zub CX X E)(I:Inv X pins σ H s)(r:Vals vs us)(h:sp (vs++dvs) H Q E):wpAny (model X.prog X.w) X.A (call (.ref f) us) (EP X pins σ Q) X.xe s:=by
 have r2:Vals (vs++dvs) (us++ds):=r.append hd
 have hl:(us++ds).length=ps.length:=by rw[<-r2.length];exact F.len _ _ _ _ h
 refine wpAny_call (codeAny_mono (F.run X.A X.stack s H ⟨us,[]⟩ (us++ds) (vs++dvs) Q E hr I.env0 (hb s us I.kIn hl) r2 h) λr s' hq=>?_)
 cases r with
 |error e=>exact hx pins σ H s e s' I hq
 |ok fl=>
  cases fl with
  |ret u=>exact I.after hq
  |next=>exact False.elim hq
  |brk=>exact False.elim hq
  |cont=>exact False.elim hq
structure Mk(K:qfa)(C f:Addr):Prop where
 makes:qj9 K C=true
 init:qfp K (.ref C) "__init__"=some (some (.ref f))
 fn:qin K (.ref f)=true
 kp:qgp K (.ref C)=true
theorem qah{pins:List (Addr×Obj)}{σ:St}{H:Hp}{s:Shared}{Q:VK}{us:List Value}{vs:List V}(M:Mk X.K C f)(F:FnOk X.prog X.w X.K X.mg X.base CX k f fd ps sp)(hr:Room (k+1) X.A)(hb:Binds X.K fd ps ds)(hd:Vals dvs ds)(hx:zub CX X E)(I:Inv X pins σ H s)(r:Vals vs us)(h:∀x dx,H x=none->H dx=none->dx≠x->sp (.ref x::(vs++dvs)) (upd (upd H dx (.own x)) x (.ins C dx [])) (λv H2=>v=.non/\Q (.ref x) H2) E) :
  wpAny (model X.prog X.w) X.A (call (.ref C) us) (EP X pins σ Q) X.xe s:=by
 have hq:=h (s.heap.objs.size+1) s.heap.objs.size (I.hok.fresh (qkv _)) (I.hok.fresh (qfh _)) (qf6 (qjy _))
 have I2:=Inv.made (C:=C) I
 have r2:Vals (V.ref (s.heap.objs.size+1)::(vs++dvs)) (Value.ref (s.heap.objs.size+1)::(us++ds)):=.cons rfl (r.append hd)
 have hl:(Value.ref (s.heap.objs.size+1)::us++ds).length=ps.length:=by
  have e:=r2.length
  rw[F.len _ _ _ _ hq]at e
  exact e.symm
 refine wpAny_call (qbh (f:=f) I.kIn M.makes M.init (beq_iff_eq.mp M.fn) (codeAny_mono (F.run _ X.stack _ _ ⟨Value.ref (s.heap.objs.size+1)::us,[]⟩ (Value.ref (s.heap.objs.size+1)::(us++ds)) _ _ E (hr.make C us [])
  (I2.env0.make C us []) (hb _ (Value.ref (s.heap.objs.size+1)::us) I2.kIn hl) r2 hq) λr s' hq'=>?_))
 cases r with
 |error e=>exact hx pins σ _ _ e s' I2 hq'
 |ok fl=>
  cases fl with
  |ret u=>
   obtain⟨v,H',I3,rv,ev,q3⟩:=I2.after hq'
   subst ev
   exact⟨rv,⟨V.ref (s.heap.objs.size+1),H',I3,rfl,q3⟩⟩
  |next=>exact False.elim hq'
  |brk=>exact False.elim hq'
  |cont=>exact False.elim hq'
end
structure zak(N P:List Str)(sc:Scope):Prop where
 kind:sc.kind=.function
 co:sc.isCoroutine=false
 gen:sc.isGenerator=false
 nd:N.Nodup
 pre:N.take P.length=P
 par:∀x∈P,sc.names.lookup x=some .local\/sc.names.lookup x=some .cell
 nofree:∀y∈sc.names,y.2≠.free
theorem zqg{kindOf:Str->Option NameKind}{x:Str}:∀{binds:List (Str×Value)}{m:Str->Option Value},(∀v,(x,v) ∉ binds)->bindL kindOf binds m x=m x
 |[],_,_=>rfl
 |(n,v)::r,m,h=>by
  unfold bindL
  rw[zqg λw hw=>h w (qf8 _ hw)]
  split
  ·have:x≠n:=by rintro rfl;exact h v qgu
   simp[this]
  ·rfl
theorem zqi{kindOf:Str->Option NameKind}{x:Str}:∀{binds:List (Str×Value)}{m:Str->Option Value},(∀v,(x,v) ∉ binds)->bindC kindOf binds m x=m x
 |[],_,_=>rfl
 |(n,v)::r,m,h=>by
  unfold bindC
  rw[zqi λw hw=>h w (qf8 _ hw)]
  split
  ·rfl
  ·have:x≠n:=by rintro rfl;exact h v qgu
   simp[this]
theorem zqh{kindOf:Str->Option NameKind}{x:Str}{v:Value}:∀{P:List Str}{vs:List Value}{i:Nat}{m:Str->Option Value},P.Nodup->P[i]?=some x->vs[i]?=some v->kindOf x=some .local ->
  bindL kindOf (P.zip vs) m x=some v
 |[],_,_,_,_,h,_,_=>by simp at h
 |_::_,[],_,_,_,_,h,_=>by simp at h
 |p::P,w::vs,0,m,nd,h1,h2,hk=>by
  simp at h1 h2;subst h1;subst h2
  show bindL kindOf ((p,w)::P.zip vs) m p=_
  unfold bindL
  rw[zqg λv hv=>(qhw.mp nd).1 (qjb hv).1,if_pos hk]
  simp
 |p::P,w::vs,i+1,m,nd,h1,h2,hk=>by
  show bindL kindOf ((p,w)::P.zip vs) m x=_
  unfold bindL
  exact zqh (i:=i) (qhw.mp nd).2 (by simpa using h1) (by simpa using h2) hk
theorem zqj{kindOf:Str->Option NameKind}{x:Str}{v:Value}:∀{P:List Str}{vs:List Value}{i:Nat}{m:Str->Option Value},P.Nodup->P[i]?=some x->vs[i]?=some v->kindOf x≠some .local ->
  bindC kindOf (P.zip vs) m x=some v
 |[],_,_,_,_,h,_,_=>by simp at h
 |_::_,[],_,_,_,_,h,_=>by simp at h
 |p::P,w::vs,0,m,nd,h1,h2,hk=>by
  simp at h1 h2;subst h1;subst h2
  show bindC kindOf ((p,w)::P.zip vs) m p=_
  unfold bindC
  rw[zqi λv hv=>(qhw.mp nd).1 (qjb hv).1,if_neg hk]
  simp
 |p::P,w::vs,i+1,m,nd,h1,h2,hk=>by
  show bindC kindOf ((p,w)::P.zip vs) m x=_
  unfold bindC
  exact zqj (i:=i) (qhw.mp nd).2 (by simpa using h1) (by simpa using h2) hk
def zib(N:List Str)(vs:List V):St:=vs.map some++qfk (N.length - vs.length) none
def zvm(CX:CXT)(P:Program)(w:World)(K:qfa)(mg:Str->Option Value)(base:Heap)(N:List Str)(qual:Str)(scope:Scope)(f:Addr)(cd:Value)(A:Around)(outer:List Env)(s:Shared)(H:Hp)(E:XK):Cx where
 prog:=P
 w:=w
 K:=K
 mg:=mg
 base:=base
 A:=A.deeper (envOfC qual scope s.heap.objs.size f cd)
 N:=N
 s₀:=s
 H₀:=H
 env:=envOfC qual scope s.heap.objs.size f cd
 outer:=outer
 stack:=envOfC qual scope s.heap.objs.size f cd::outer
 ex:=[]
 calm:=true
 fn:=λ_=>true
 pn:=[]
 xe:=λe s'=>wpAny (model P w) (A.deeper (envOfC qual scope s.heap.objs.size f cd)) (leaving (envOfC qual scope s.heap.objs.size f cd) e) (λ_ s''=>CX outer H s E e s'') (λe' s''=>CX outer H s E e' s'') s'
theorem zt9{sc:Scope}{n:Nat}{x:Str}(h:sc.names.lookup x=some .cell):∃c,(cellsFrom n sc.names []).lookup x=some c:=by
 have q:=qj1 sc.names n [] (.inl h)
 exact qjp.mp q
theorem zyn{CX:CXT}{P:Program}{w:World}{K:qfa}{mg:Str->Option Value}{base:Heap}{N ps:List Str}{qual:Str}{scope:Scope}{f:Addr}{cd:Value}{A:Around}{outer:List Env}{s s1:Shared}{H:Hp}{E:XK}{us:List Value}{vs:List V}(S:zak N ps scope)(hd:A.handled=none)(e0:Env0 P w K mg base A outer s H)(hl:vs.length=ps.length)(r:Vals vs us)(x:InCallC s s.heap.objs.size (bindL (envOfC qual scope s.heap.objs.size f cd).kindOf (ps.zip us) λ_=>none) (cellsFrom (s.heap.objs.size+1) scope.names []) (bindC (envOfC qual scope s.heap.objs.size f cd).kindOf (ps.zip us) λ_=>none) s1) :
  Inv (zvm CX P w K mg base N qual scope f cd A outer s H E) [] (zib N vs) H s1:=by
 have hpl:ps.length<=N.length:=by have:=congrArg qh1 S.pre;rw[qfx]at this;lia
 obtain⟨h1,tk,rfl,hk⟩:=x.done
 have noA:∀b:Addr,b ∉ (zvm CX P w K mg base N qual scope f cd A outer s H E).ex:=λb z=>absurd (show b∈([]:List Addr) from z) (by simp)
 refine⟨⟨e0.mod,S.kind,rfl,rfl,qfh _,λy z c h1 h2=>?_,λy hy=>?_,λy c _ h=>?_,λ_=>hd,Around.frames_deeper e0.frames,.inr ⟨rfl,rfl⟩,λb z=>absurd z (noA b),e0.bs,e0.bsz,λb _ _=>noA b,λb z=>absurd z (noA b),e0.funs,e0.frf⟩,
  rfl,e0.bare,Un.kept hk,⟨_,x.toInCall.ns,λi y v h1 h2 h3=>?_⟩,λy c h=>⟨_,x.cell y c h⟩,e0.hok.fresh (qfh _),λy c h=>?_,λp hp=>absurd (show p∈([]:List (Addr×Obj)) from hp) (by simp),e0.hok.kept hk,?_⟩
 ·exact name_of_addr x.apart (PySem.mem_of_lookup h1) (PySem.mem_of_lookup h2)
 ·have hy:scope.names.lookup y=some .cell\/scope.names.lookup y=some .free:=hy
  rcases hy with hy|hy
  ·exact zt9 hy
  ·exact absurd rfl (S.nofree _ (PySem.mem_of_lookup hy))
 ·exact qkq (x.above y c (PySem.mem_of_lookup h))
 ·have hi:i<vs.length:=by
   unfold zib at h2
   by_cases hi:i<vs.length
   ·exact hi
   ·rw[qhb (by simpa using hi)]at h2
    rw[qhx]at h2
    split at h2 <;> cases h2
  have ha:vs[i]?=some v:=by
   unfold zib at h2
   rw[qjj (by simpa using hi),qfe]at h2
   cases e:vs[i]? with
   |none=>rw[e]at h2;cases h2
   |some a=>rw[e]at h2;cases h2;rfl
  obtain⟨u,hu,rv⟩:=r.get ha
  have hp:ps[i]?=some y:=by
   rw[<-S.pre,List.getElem?_take_of_lt (by lia)];exact h1
  have ndP:ps.Nodup:=by rw[<-S.pre];exact S.nd.sublist (List.take_sublist _ _)
  refine⟨u,rv,?_⟩
  rcases S.par y (qfw hp) with k|k
  ·exact .inl ⟨k,zqh ndP hp hu k⟩
  ·obtain⟨c,e⟩:=zt9 (n:=s.heap.objs.size+1) k
   refine .inr ⟨.inl k,c,e,?_⟩
   have q:=x.cell y c e
   rw[zqj ndP hp hu (by show scope.names.lookup y≠_;rw[k];decide)]at q
   exact q
 ·exact e0.hok.fresh (qkq (x.above y c (PySem.mem_of_lookup h)))
 ·unfold zib
  show _=N.length
  rw[qfb,qe9,qi0]
  lia
theorem fn_of{CX:CXT}{P:Program}{w:World}{K:qfa}{mg:Str->Option Value}{base:Heap}{k:Nat}{f:Addr}{name qual:Str}{params:Arguments}{body:List Stmt}{scope:Scope}{dV kV doc pm cdv ct oc:Value}{an od:Option Addr}{osl:Array (Option Value)}{N ps:List Str}{sp:Sp}(lk:K.lookup f=some ⟨oc,od,.func (qgo name qual params body scope dV kV doc pm an cdv ct),osl⟩)(hcd:qhg K cdv qual=true)(S:zak N ps scope)(len:∀vs H Q E,sp vs H Q E->vs.length=ps.length)(hbody:∀(A:Around) (outer:List Env) (s:Shared) (H:Hp) (vs:List V) (Q:VK) (E:XK),Room k (A.deeper (envOfC qual scope s.heap.objs.size f cdv))->sp vs H Q E ->
   ∃t,PSs (zvm CX P w K mg base N qual scope f cdv A outer s H E) body t/\t { nx:=λ_ H'=>Q .non H',rt:=Q } (zib N vs) H) :
  FnOk P w K mg base CX (k+1) f (qgo name qual params body scope dV kV doc pm an cdv ct) ps sp:=by
 refine⟨len,λA outer s H args us vs Q E hr e0 hb r hsp=>?_⟩
 have hl:=len _ _ _ _ hsp
 have KX:K.In s.heap:=e0.mod.kin.keeps λb o e=>(e0.bs b o e).1
 have lim:s.heap.NoLimit:=e0.mod.nolimit.keeps λb o e=>(e0.bs b o e).1
 have hkind:∀y∈ps.zip us,scope.names.lookup y.1=some .local\/(scope.names.lookup y.1=some .cell/\((cellsFrom (s.heap.objs.size+1) scope.names []).lookup y.1).isSome=true):=λ⟨n,v⟩ hy=>by
  rcases S.par n (qjb hy).1 with q|q
  ·exact .inl q
  ·exact .inr ⟨q,qj1 _ _ _ (.inl q)⟩
 refine codeAny_call_function hr.depth (KX _ _ lk) rfl S.co S.gen rfl (PySem.W.codeRec_of KX hcd) (hb _ _ _ _ ?_)
 refine wpAny_newFunctionEnv_cells S.kind hkind λenv he s1 x=>?_
 subst he
 refine⟨lim.keeps x.toInCall.keep,codeAny_func ?_⟩
 obtain⟨t,ht,hq⟩:=hbody A outer s H vs Q E (hr.deeper _) hsp
 have I:Inv (zvm CX P w K mg base N qual scope f cdv A outer s H E) [] (zib N vs) H s1:=zyn S hr.hd e0 hl r x
 refine wpAny_mono (ht [] s1 (zib N vs) H _ I hq) (λfl s' hs=>?_) λe s' hs=>hs
 have fin:∀{σ':St}{H':Hp}{v:V}{u:Value},Inv (zvm CX P w K mg base N qual scope f cdv A outer s H E) [] σ' H' s'->RelV v u->Q v H'->CE outer P w H s Q u s':=
  λ{σ' H' v u} J rv q=>⟨v,H',J.os,J.bare,J.base,J.hok,rv,q⟩
 cases fl with
 |ret u=>
  obtain⟨v,σ',H',J,rv,q⟩:=hs
  exact fin J rv q
 |next=>
  obtain⟨σ',H',J,q⟩:=hs
  exact fin (v:=V.non) (u:=Value.none) J rfl q
 |brk=>
  obtain⟨_,_,_,q⟩:=hs
  exact False.elim q
 |cont=>
  obtain⟨_,_,_,q⟩:=hs
  exact False.elim q
section
variable{X:Cx}{x:Str}{p pos:Pos}{e:Expr}{es:List Expr}{t:TA}{id T:String}{r:List V->Hp->VK->Prop}
def tCB(r:List V->Hp->VK->Prop)(t:TA):TE:=λσ H Q=>t σ H λvs H1=>r vs H1 Q
theorem za0(hc:zmn X (.builtin id) r)(hg:Gl X x)(hm:X.mg x=none)(hv:bootBuiltins x=some (.builtin id))(ha:PA X (e::es) t)(hn:x≠"__name__":=by decide)(hdb:(x == ("__debug__":Str))=false:=by decide)(he:starEach (e::es) X.env=(false,eval e X.env)::starEach es X.env:=by rfl)(hpl:(backTo pos (starEach es X.env)).any (·.1)=false:=by rfl):PE X (.Call (.Name x p) (e::es) [] pos) (tCB r t):=by
 intro pins s σ H Q I h
 refine wpAny_Call_Name_kw (zhz I hg hm hv ?_ hn hdb)
 exact PyProof.Rows.callWith_builtin1 (thn (ha pos pins s σ H _ I h) λus s1 ⟨vs,H1,I1,r1,q1⟩=>hc pins s1 σ H1 vs us Q I1 r1 q1) he hpl
theorem zxb(hc:zmn X (.type T) r)(hg:Gl X x)(hm:X.mg x=none)(hv:bootBuiltins x=some (.type T))(ha:PA X (e::es) t)(hn:x≠"__name__":=by decide)(hdb:(x == ("__debug__":Str))=false:=by decide)(he:starEach (e::es) X.env=(false,eval e X.env)::starEach es X.env:=by rfl)(hpl:(backTo pos (starEach es X.env)).any (·.1)=false:=by rfl):PE X (.Call (.Name x p) (e::es) [] pos) (tCB r t):=by
 intro pins s σ H Q I h
 refine wpAny_Call_Name_kw (zhz I hg hm hv ?_ hn hdb)
 exact PyProof.Rows.callWith_type1 (thn (ha pos pins s σ H _ I h) λus s1 ⟨vs,H1,I1,r1,q1⟩=>hc pins s1 σ H1 vs us Q I1 r1 q1) he hpl
end
end L2
namespace HT
open PySem PyProof.Rows
section
variable{prog:Program}{w:World}{A:Around}{E:Value->Shared->Prop}{s:Shared}
def sIx(n d:Nat):Option Int->Nat
 |none=>d
 |some v=>if v<0 then (v+(n:Int)).toNat else min v.toNat n
theorem sIx_none(n d:Nat):sIx n d none=d:=rfl
theorem sIx_nat(n d k:Nat):sIx n d (some (k:Int))=min k n:=by
 show (if (k:Int)<0 then ((k:Int)+(n:Int)).toNat else min (k:Int).toNat n)=min k n
 rw[if_neg (by lia),Int.toNat_natCast]
theorem sIx_le(n d:Nat)(hd:d<=n)(o:Option Int):sIx n d o<=n:=by
 cases o with
 |none=>exact hd
 |some v=>
  show (if v<0 then (v+(n:Int)).toNat else min v.toNat n)<=n
  by_cases hv:v<0
  ·rw[if_pos hv];lia
  ·rw[if_neg hv];exact Nat.min_le_right _ _
end
end HT
namespace L2
open PySem PySem.Spec PyProof.Rows
abbrev TO:=St->Hp->(Option Int->Hp->Prop)->Prop
def PO(X:Cx)(e:Option Expr)(t:TO):Prop:=
 ∀(pins:List (Addr×Obj))(s:Shared)(σ:St)(H:Hp)(Q:Option Int->Hp->Prop),Inv X pins σ H s->t σ H Q ->
  wpAny (model X.prog X.w) X.A (evalPart e X.env) (λu s'=>∃o H',Inv X pins σ H' s'/\IsPart u o/\Q o H') X.xe s
def qcy:TO:=λ_ H Q=>Q none H
def tPart(t:TE):TO:=λσ H Q=>t σ H λx H1=>∃i,x=.int i/\Q (some i) H1
section
variable{X:Cx}{e:Expr}{te:TE}{lo hi:Option Expr}{tl th:TO}{pos p2:Pos}
theorem zgq:PO X none qcy:=by
 intro pins s σ H Q I h
 rw[evalPart_none]
 exact wpAny_pure ⟨none,H,I,.none,h⟩
theorem zcu(h:PE X e te):PO X (some e) (tPart te):=by
 intro pins s σ H Q I hw
 rw[evalPart_some]
 refine thn (h pins s σ H _ I hw) λu s1 ⟨x,H1,I1,r1,q1⟩=>?_
 obtain⟨i,rfl,q⟩:=q1
 obtain⟨t,rfl⟩:=r1
 exact⟨some i,H1,I1,.int i t,q⟩
def SlR(X:Cx)(r:V->Option Int->Option Int->Hp->VK->Prop):Prop:=
 ∀(pins:List (Addr×Obj))(s:Shared)(σ:St)(H:Hp)(x:V)(v vl vu:Value)(lo hi:Option Int)(sl:Addr)(Q:VK),Inv X pins σ H s->RelV x v->s.heap.IsSliceOf sl vl vu .none->IsPart vl lo->IsPart vu hi->r x lo hi H Q ->
  ∃T id,typeLookup (.type T) "__getitem__"=pure (some (.builtin id))/\s.TypeIs v T/\wpAny (model X.prog X.w) X.A (getItem v (.ref sl)) (EP X pins σ Q) X.xe s
def tSl(r:V->Option Int->Option Int->Hp->VK->Prop)(te:TE)(tl th:TO):TE:=λσ H Q=>te σ H λx H1=>tl σ H1 λl H2=>th σ H2 λu H3=>r x l u H3 Q
theorem zcx{r:V->Option Int->Option Int->Hp->VK->Prop}(hr:SlR X r)(he:PE X e te)(hl:PO X lo tl)(hu:PO X hi th):PE X (.Subscript e (.Slice lo hi none p2) pos) (tSl r te tl th):=by
 intro pins s σ H Q I h
 refine Subscript_ (thn (he pins s σ H _ I h) λv s1 ⟨x,H1,I1,r1,q1⟩=>?_)
 refine wpAny_Slice (thn (hl pins s1 σ H1 _ I1 q1) λvl s2 ⟨l,H2,I2,pl,q2⟩=>thn (hu pins s2 σ H2 _ I2 q2) λvu s3 ⟨u,H3,I3,pu,q3⟩=>?_)
 rw[evalPart_none]
 refine wpAny_pure ?_
 have I4:Inv X pins σ H3 { s3 with heap:=s3.heap.push { cls:=.type "slice",data:=.fields #[vl,vu,.none] } }:=I3.kept (t':=s3.toks) λb ob q=>Heap.get?_push_of_some _ q
 obtain⟨T,id,hT,ht,hg⟩:=hr pins { s3 with heap:=s3.heap.push { cls:=.type "slice",data:=.fields #[vl,vu,.none] } } σ H3 x v vl vu l u s3.heap.objs.size Q I4 r1 (Heap.IsSliceOf.new ..) pl pu q3
 show wpAny (model X.prog X.w) X.A (subscriptTail e (.Slice lo hi none p2) v (.ref s3.heap.objs.size)) (EP X pins σ Q) X.xe { s3 with heap:=s3.heap.push { cls:=.type "slice",data:=.fields #[vl,vu,.none] } }
 exact tail_any (ops:=[.ref s3.heap.objs.size,v]) ht hT hg (by with_unfolding_all rfl)
def zqa(xs:List V)(lo hi:Option Int):List V:=(xs.drop (HT.sIx xs.length 0 lo)).take (HT.sIx xs.length xs.length hi - HT.sIx xs.length 0 lo)
theorem zr6(xs:List V)(lo hi:Option Int):(zqa xs lo hi).length<=xs.length:=by
 unfold zqa
 rw[qfx,qgj]
 lia
end
def ixN(n:Nat)(i:Int):Option Nat:=if 0<=i then (if i<n then some i.toNat else none) else if -(n:Int)<=i then some (i+n).toNat else none
def atI{α:Type}(xs:List α)(i:Int):Option α:=(ixN xs.length i).bind λj=>xs[j]?
theorem zyk{n:Nat}{i:Int}{j:Nat}(h:ixN n i=some j):seqIndex? i n=some j/\j<n/\-(n:Int)<=i/\i<n:=by
 unfold ixN at h
 by_cases h0:0<=i
 ·rw[if_pos h0]at h
  by_cases h1:i<n
  ·rw[if_pos h1]at h
   have e:i.toNat=j:=qfl.inj h
   exact⟨by rw[seqIndex_of h0 h1,e],by lia,by lia,h1⟩
  ·rw[if_neg h1]at h;cases h
 ·rw[if_neg h0]at h
  by_cases h1:-(n:Int)<=i
  ·rw[if_pos h1]at h
   have e:(i+n).toNat=j:=qfl.inj h
   exact⟨by rw[seqIndex_neg (by lia) h1,e],by lia,h1,by lia⟩
  ·rw[if_neg h1]at h;cases h
theorem zse{α:Type}{xs:List α}{i:Int}{v:α}(h:atI xs i=some v):∃j,seqIndex? i xs.length=some j/\xs[j]?=some v/\j<xs.length/\-(xs.length:Int)<=i/\i<xs.length:=by
 unfold atI at h
 cases e:ixN xs.length i with
 |none=>rw[e]at h;cases h
 |some j=>
  rw[e]at h
  obtain⟨h1,h2,h3,h4⟩:=zyk e
  exact⟨j,h1,h,h2,h3,h4⟩
theorem zez{α:Type}{xs:List α}{j:Nat}{v:α}(h:xs[j]?=some v):atI xs (j:Int)=some v:=by
 have hj:j<xs.length:=(qfc.mp h).1
 have e:ixN xs.length (j:Int)=some j:=by
  unfold ixN
  rw[if_pos (by lia),if_pos (by lia)];simp
 unfold atI;rw[e];exact h
def qe2(b:Expr):Prop:=∀o i,subscripted b false o i=operate [o,i] (getItem o i)
def IxR(X:Cx)(r:R2):Prop:=
 ∀(value slice:Expr)(pins:List (Addr×Obj))(s:Shared)(σ:St)(H:Hp)(x y:V)(v u:Value)(Q:VK),Inv X pins σ H s->RelV x v->RelV y u->r x y H Q ->
  subscripted slice false v u=operate [v,u] (getItem v u)->wpAny (model X.prog X.w) X.A (subscriptTail value slice v u) (EP X pins σ Q) X.xe s
def MtR(X:Cx)(id:String)(r:V->List V->Hp->VK->Prop):Prop:=
 ∀(pins:List (Addr×Obj))(s:Shared)(σ:St)(H:Hp)(x:V)(xs:List V)(v:Value)(us:List Value)(Q:VK),Inv X pins σ H s->RelV x v->Vals xs us->r x xs H Q ->
  wpAny (model X.prog X.w) X.A (call (.builtin id) (v::us)) (EP X pins σ Q) X.xe s
section
variable{X:Cx}{a b:Expr}{ta tb:TE}{pos:Pos}
theorem zdp{r:R2}(hr:IxR X r)(ha:PE X a ta)(hb:PE X b tb)(hs:qe2 b):PE X (.Subscript a b pos) (tOp r ta tb):=by
 intro pins s σ H Q I h
 exact Subscript_ (binT ha hb I h λv u s2 x y H2 I2 rx ry q=>hr a b pins s2 σ H2 x y v u Q I2 rx ry q (hs _ _))
def rIxL(K:qfa):R2:=λx y H Q=>∃p xs i v,x=.ref p/\y=.int i/\SqL K H p xs/\atI xs i=some v/\Q v H
def rIxT(K:qfa):R2:=λx y H Q=>∃p xs i v,x=.ref p/\y=.int i/\SqT K H p xs/\atI xs i=some v/\Q v H
def rIxS:R2:=λx y H Q=>∃z i c,x=.str z/\y=.int i/\z.length<=sizeLine/\atI z.cps.toList i=some c/\Q (.str ⟨#[c]⟩) H
theorem zew:IxR X (rIxL X.K):=by
 intro value slice pins s σ H x y v u Q I rx ry h hs
 obtain⟨p,xs,i,z,rfl,rfl,hq,he,q⟩:=h
 cases rx
 obtain⟨t,rfl⟩:=ry
 obtain⟨its,r,pl,hz⟩:=I.list hq
 obtain⟨j,h1,h2,h3,h4,h5⟩:=zse he
 obtain⟨w,ew,rw'⟩:=r.get h2
 have hl:=r.length
 have hn:=zna
 have fin:EP X pins σ Q w s:=⟨z,H,I,rw',q⟩
 by_cases h0:0<=i
 ·have hj:i.toNat=j:=by
   rw[seqIndex_of h0 h5]at h1
   exact qfl.inj h1
  exact item_listR pl.isList h0 (by lia) (by rw[hj];simpa using ew) fin hs
 ·have hj:(i+(its.toArray.size:Int)).toNat=j:=by
   rw[seqIndex_neg (by lia) h4]at h1
   rw[qfr,<-hl]
   exact qfl.inj h1
  exact subscriptTail_builtinR (x:=w) pl.isList.typeIs slot_list_getitem.lookup
   (wpAny_getItem_list_neg (Q:=λr s'=>r=w/\EP X pins σ Q r s') pl.isList (by lia) (by rw[qfr] <;> lia) (by lia) (by rw[hj];simpa using ew) ⟨rfl,fin⟩) hs
theorem ze5:IxR X (rIxT X.K):=by
 intro value slice pins s σ H x y v u Q I rx ry h hs
 obtain⟨p,xs,i,z,rfl,rfl,hq,he,q⟩:=h
 cases rx
 obtain⟨t,rfl⟩:=ry
 obtain⟨its,r,pl,hz⟩:=I.tuple hq
 obtain⟨j,h1,h2,h3,h4,h5⟩:=zse he
 obtain⟨w,ew,rw'⟩:=r.get h2
 have hl:=r.length
 have hn:=zna
 have fin:EP X pins σ Q w s:=⟨z,H,I,rw',q⟩
 exact subscriptTail_builtinR (x:=w) pl.typeIs slot_tuple_getitem.lookup
  (getItem_tuple (j:=j) (Q:=λr s'=>r=w/\EP X pins σ Q r s') pl (by lia) (by lia) (by rw[qfr,<-hl];exact h1) (by simpa using ew) ⟨rfl,fin⟩) hs
theorem qch:IxR X rIxS:=by
 intro value slice pins s σ H x y v u Q I rx ry h hs
 obtain⟨z,i,c,rfl,rfl,hz,he,q⟩:=h
 obtain⟨t,rfl⟩:=rx
 obtain⟨t',rfl⟩:=ry
 obtain⟨j,h1,h2,h3,h4,h5⟩:=zse he
 have hl:z.cps.toList.length=z.length:=by simp[Str.length]
 rw[hl]at h1 h4 h5
 have hn:=zna
 exact tail_any (typeIs_str s z t) slot_str_getitem.lookup (getItem_str (c:=c) (by
  have e1:decide (i < -(2 ^ 63:Int))=false:=decide_eq_false (by lia)
  have e2:decide (i ≥ 2 ^ 63)=false:=decide_eq_false (by lia)
  rw[e1,e2,qjs]) (by rw[h1];simpa using h2) ⟨.str ⟨#[c]⟩,H,I.tok _,⟨_,rfl⟩,q⟩) hs
theorem zu7(its:List Value)(n j:Nat)(u:Value):Obj.mapSeq (·.setIfInBounds j u) { cls:=.type "list",data:=.seq its.toArray n }={ cls:=.type "list",data:=.seq (its.set j u).toArray n }:=by
 simp[Obj.mapSeq]
theorem Inv.lst{pins:List (Addr×Obj)}{σ:St}{H:Hp}{s:Shared}{p:Addr}{xs:List V}(I:Inv X pins σ H s)(h:H p=some (.lst xs)) :
  ∃(its:List Value)(n:Nat),Vals xs its/\s.heap.get? p=some { cls:=.type "list",data:=.seq its.toArray n }/\xs.length<=sizeLine:=by
 obtain⟨z,its,n,r,e⟩:=I.hok p _ h
 exact⟨its,n,r,e,z⟩
theorem Inv.lstUpd{pins:List (Addr×Obj)}{σ:St}{H:Hp}{s:Shared}{p:Addr}{xs ys:List V}{its its':List Value}{n n':Nat}{f:Obj->Obj}(I:Inv X pins σ H s)(h:H p=some (.lst xs))(ho:s.heap.get? p=some { cls:=.type "list",data:=.seq its.toArray n })(hf:f { cls:=.type "list",data:=.seq its.toArray n }={ cls:=.type "list",data:=.seq its'.toArray n' })(r:Vals ys its')(hz:ys.length<=sizeLine)(t:Nat) :
  Inv X pins σ (upd H p (.lst ys)) { s with heap:=s.heap.update p f,toks:=t }:=by
 have e:(s.heap.update p f).get? p=some { cls:=.type "list",data:=.seq its'.toArray n' }:=by
  rw[Heap.get?_update_self f ho (by rw[hf] <;> rfl),hf]
 refine I.write (x:=p) (e:=p) (by rw[h];trivial) (.inl rfl) (λb u hb q=>(Heap.get?_update_other _ _ (Ne.symm hb)).trans q) ⟨_,e⟩ ?_
 exact⟨hz,its',n',r,e⟩
def rSetL:V->V->V->Hp->(Hp->Prop)->Prop:=λo i v H Q=>∃p xs k j,o=.ref p/\i=.int k/\H p=some (.lst xs)/\ixN xs.length k=some j/\Q (upd H p (.lst (xs.set j v)))
theorem znp:PSet X rSetL:=by
 intro pins s σ H o i v ov iv u Q I ro ri rv h
 obtain⟨p,xs,k,j,rfl,rfl,hp,hj,q⟩:=h
 cases ro
 obtain⟨t,rfl⟩:=ri
 obtain⟨its,n,r,ho,hz⟩:=I.lst hp
 obtain⟨h1,h2,h3,h4⟩:=zyk hj
 have hl:=r.length
 have hn:=zna
 have I':Inv X pins σ (upd H p (.lst (xs.set j v))) { s with heap:=s.heap.update p (Obj.mapSeq (·.setIfInBounds j u)) }:=
  I.lstUpd hp ho (zu7 its n j u) (r.set rv j) (by rw[qj6];exact hz) s.toks
 by_cases h0:0<=k
 ·have hk:k.toNat=j:=by
   rw[seqIndex_of h0 h4]at h1
   exact qfl.inj h1
  exact PySem.W.ki_setAt ho h0 (by lia) (by rw[qfr,<-hl];exact h4) (by rw[hk];exact⟨_,I',q⟩)
 ·have hk:(k+(its.toArray.size:Int)).toNat=j:=by
   rw[seqIndex_neg (by lia) h3]at h1
   rw[qfr,<-hl]
   exact qfl.inj h1
  exact PySem.W.ki_setBack ho (by lia) (by rw[qfr,<-hl];exact h3) (by lia) (by rw[hk];exact⟨_,I',q⟩)
theorem zo0(lo hi:Option Int)(n:Nat):(sliceBounds lo hi none n).1=((HT.sIx n 0 lo:Nat):Int)/\(sliceBounds lo hi none n).2.1=((HT.sIx n n hi:Nat):Int)/\(sliceBounds lo hi none n).2.2=1:=by
 refine⟨?_,?_,rfl⟩
 ·cases lo with
  |none=>simp[sliceBounds,HT.sIx]
  |some i=>
   simp only[sliceBounds,HT.sIx,Option.getD_none,show (1:Int) > 0 by decide,if_true]
   by_cases h:i<0
   ·simp only[h,if_true] <;> lia
   ·simp only[h,if_false] <;> lia
 ·cases hi with
  |none=>simp[sliceBounds,HT.sIx]
  |some i=>
   simp only[sliceBounds,HT.sIx,Option.getD_none,show (1:Int) > 0 by decide,if_true]
   by_cases h:i<0
   ·simp only[h,if_true] <;> lia
   ·simp only[h,if_false] <;> lia
theorem znn(its:List Value)(lo hi:Option Int):slicePick its.toArray lo hi none=((its.drop (HT.sIx its.length 0 lo)).take (HT.sIx its.length its.length hi - HT.sIx its.length 0 lo)).toArray:=by
 obtain⟨h1,h2,h3⟩:=zo0 lo hi its.toArray.size
 unfold slicePick
 rw[h1,h2,h3]
 simp only[sliceRange_one,pick_run,qfr] <;> rfl
def rSlL(K:qfa):V->Option Int->Option Int->Hp->VK->Prop:=λx lo hi H Q=>∃a xs,x=.ref a/\SqL K H a xs/\∀p,H p=none->Q (.ref p) (upd H p (.lst (zqa xs lo hi)))
theorem zgo:SlR X (rSlL X.K):=by
 intro pins s σ H x v vl vu lo hi sl Q I rx hs pl pu h
 obtain⟨a,xs,rfl,hx,q⟩:=h
 cases rx
 obtain⟨its,r,ht,hz⟩:=I.list hx
 have hlen:=r.length
 refine⟨"list",_,slot_list_getitem.lookup,ht.isList.typeIs,?_⟩
 refine wpAny_getItem_list_slice ht.isList hs pl pu .none (by simp) ?_ (by rw[qfr] <;> lia)
 rw[znn,<-hlen]
 refine⟨.ref s.heap.objs.size,_,I.laid (t':=s.toks) (o:=.lst (zqa xs lo hi)) (λb ob q=>Heap.get?_push_of_some _ q) (qfh _) ?_,rfl,q _ (I.hok.fresh (qfh _))⟩
 exact⟨qgn (zr6 xs lo hi) hz,_,0,(r.drop (HT.sIx xs.length 0 lo)).take (HT.sIx xs.length xs.length hi - HT.sIx xs.length 0 lo),Heap.get?_push_size _ rfl⟩
def zmb:V->Bool
 |.non=>true
 |.bl _=>true
 |.int _=>true
 |.str _=>true
 |_=>false
def eqV:V->V->Bool
 |.non,.non=>true
 |.bl a,.bl b=>a == b
 |.bl a,.int b=>(if a then 1 else 0) == b
 |.int a,.bl b=>a == (if b then 1 else 0)
 |.int a,.int b=>a == b
 |.str a,.str b=>a == b
 |_,_=>false
theorem eqAt_V{A:Around}{s:Shared}{y x:V}{u v:Value}(ry:RelV y u)(rx:RelV x v)(fy:zmb y=true)(fx:zmb x=true):SeqAt.EqAt A s u v (eqV y x):=by
 cases y with
 |non=>
  cases ry
  cases x with
  |non=>cases rx;exact SeqAt.EqAt.same _
  |bl b=>cases rx;exact SeqAt.EqAt.none_bool b
  |int b=>obtain⟨t,rfl⟩:=rx;exact SeqAt.EqAt.none_int b t
  |str b=>obtain⟨t,rfl⟩:=rx;exact SeqAt.EqAt.none_str b t
  |_=>exact absurd (show false=true from fx) qfu
 |bl a=>
  cases ry
  cases x with
  |non=>cases rx;exact SeqAt.EqAt.bool_none a
  |bl b=>cases rx;exact SeqAt.EqAt.bool_bool a b
  |int b=>obtain⟨t,rfl⟩:=rx;exact SeqAt.EqAt.bool_int a b t
  |str b=>obtain⟨t,rfl⟩:=rx;exact SeqAt.EqAt.bool_str a b t
  |_=>exact absurd (show false=true from fx) qfu
 |int a=>
  obtain⟨t',rfl⟩:=ry
  cases x with
  |non=>cases rx;exact SeqAt.EqAt.int_none a t'
  |bl b=>cases rx;exact SeqAt.EqAt.int_bool a t' b
  |int b=>obtain⟨t,rfl⟩:=rx;exact SeqAt.EqAt.int_int a t' b t
  |str b=>obtain⟨t,rfl⟩:=rx;exact SeqAt.EqAt.int_str a t' b t
  |_=>exact absurd (show false=true from fx) qfu
 |str a=>
  obtain⟨t',rfl⟩:=ry
  cases x with
  |non=>cases rx;exact SeqAt.EqAt.str_none a t'
  |bl b=>cases rx;exact SeqAt.EqAt.str_bool a t' b
  |int b=>obtain⟨t,rfl⟩:=rx;exact SeqAt.EqAt.str_int a t' b t
  |str b=>obtain⟨t,rfl⟩:=rx;exact SeqAt.EqAt.str_str a t' b t
  |_=>exact absurd (show false=true from fx) qfu
 |_=>exact absurd (show false=true from fy) qfu
def eqU(x:V)(u:Value):Bool:=match u with
 |.none=>eqV .non x
 |.bool b=>eqV (.bl b) x
 |.int i _=>eqV (.int i) x
 |.str z _=>eqV (.str z) x
 |_=>false
theorem qci{x y:V}{u:Value}(r:RelV y u)(f:zmb y=true):eqU x u=eqV y x:=by
 cases y with
 |non=>cases r;rfl
 |bl b=>cases r;rfl
 |int i=>obtain⟨t,rfl⟩:=r;rfl
 |str z=>obtain⟨t,rfl⟩:=r;rfl
 |_=>exact absurd (show false=true from f) qfu
theorem zlp{x:V}:∀{xs:List V}{us:List Value},Vals xs us->xs.all zmb=true->us.any (eqU x)=xs.any λy=>eqV y x
 |_,_,.nil,_=>rfl
 |y::xs,u::us,.cons r t,f=>by
  rw[qhy,qft]at f
  rw[qhz,qhz,qci r f.1,zlp t f.2]
theorem zhw{A:Around}{s:Shared}{x:V}{v:Value}(rx:RelV x v)(fx:zmb x=true):∀{xs:List V}{us:List Value},Vals xs us->xs.all zmb=true->∀u∈us,SeqAt.EqAt A s u v (eqU x u)
 |_,_,.nil,_=>λu hu=>by cases hu
 |y::xs,u::us,.cons r t,f=>λu' hu=>by
  rw[qhy,qft]at f
  rcases qfo.mp hu with rfl|hu
  ·rw[qci r f.1];exact eqAt_V r rx f.1 fx
  ·exact zhw rx fx t f.2 u' hu
def inV(x:V)(xs:List V):Bool:=xs.any λy=>eqV y x
def rIn(K:qfa)(neg:Bool):R2:=λx y H Q=>∃p xs,y=.ref p/\(SqL K H p xs\/SqT K H p xs)/\zmb x=true/\xs.all zmb=true/\Q (.bl (if neg then !inV x xs else inV x xs)) H
theorem zku:OpR X (compareOp .In) (rIn X.K false):=by
 intro pins s σ H x y v u Q I rx ry h
 obtain⟨p,xs,rfl,hq,fx,fs,q⟩:=h
 cases ry
 rcases hq with hq|hq
 ·obtain⟨its,r,pl,hz⟩:=I.list hq
  refine SeqAt.in_listAt (eqU x) pl.isList (λw hw=>zhw rx fx r fs w (by simpa using hw)) ⟨.bl _,H,I,rfl,?_⟩
  rw[show its.toArray.any (eqU x)=its.any (eqU x) by simp,zlp r fs]
  exact q
 ·obtain⟨its,r,pl,hz⟩:=I.tuple hq
  refine SeqAt.in_tupleAt (eqU x) pl (λw hw=>zhw rx fx r fs w (by simpa using hw)) ⟨.bl _,H,I,rfl,?_⟩
  rw[show its.toArray.any (eqU x)=its.any (eqU x) by simp,zlp r fs]
  exact q
theorem zpj:OpR X (compareOp .NotIn) (rIn X.K true):=by
 intro pins s σ H x y v u Q I rx ry h
 obtain⟨p,xs,rfl,hq,fx,fs,q⟩:=h
 cases ry
 rcases hq with hq|hq
 ·obtain⟨its,r,pl,hz⟩:=I.list hq
  refine SeqAt.notIn_listAt (eqU x) pl.isList (λw hw=>zhw rx fx r fs w (by simpa using hw)) ⟨.bl _,H,I,rfl,?_⟩
  rw[show its.toArray.any (eqU x)=its.any (eqU x) by simp,zlp r fs]
  exact q
 ·obtain⟨its,r,pl,hz⟩:=I.tuple hq
  refine SeqAt.notIn_tupleAt (eqU x) pl (λw hw=>zhw rx fx r fs w (by simpa using hw)) ⟨.bl _,H,I,rfl,?_⟩
  rw[show its.toArray.any (eqU x)=its.any (eqU x) by simp,zlp r fs]
  exact q
theorem za3:zmn X (.builtin "len") (λxs H Q=>∃p ys,xs=[.ref p]/\(SqL X.K H p ys\/SqT X.K H p ys)/\Q (.int ys.length) H):=by
 intro pins s σ H xs us Q I r h
 obtain⟨p,ys,rfl,hq,q⟩:=h
 obtain⟨u,rfl,rx⟩:=qcv r
 cases rx
 have hn:=zna
 rcases hq with hq|hq
 ·obtain⟨its,r',pl,hz⟩:=I.list hq
  have hlen:=r'.length
  exact Calls.call_len_list pl.isList (by simp only[qfr] <;> lia) ⟨.int ys.length,H,I.tok _,⟨s.toks+1,by rw[qfr,hlen]⟩,q⟩
 ·obtain⟨its,r',pl,hz⟩:=I.tuple hq
  have hlen:=r'.length
  exact len_tuple pl (by simp only[qfr] <;> lia) ⟨.int ys.length,H,I.tok _,⟨s.toks+1,by rw[qfr,hlen]⟩,q⟩
theorem zc5:zmn X (.builtin "len") (λxs H Q=>∃z,xs=[.str z]/\z.length<=sizeLine/\Q (.int z.length) H):=by
 intro pins s σ H xs us Q I r h
 obtain⟨z,rfl,hz,q⟩:=h
 obtain⟨u,rfl,t,rfl⟩:=qcv r
 have hn:=zna
 exact len_str (by lia) ⟨.int z.length,H,I.tok _,⟨_,rfl⟩,q⟩
def tyV(K:qfa)(T:String)(x:V)(H:Hp):Prop:=match x with
 |.str _=>T="str"
 |.int _=>T="int"
 |.ref p=>(T="list"/\∃xs,SqL K H p xs)\/(T="tuple"/\∃o,K.lookup p=some o/\o.cls=.type "tuple"/\o.dict=none) ∨
   (T="dict"/\((∃kvs,H p=some (.dK kvs))\/∃kvs,H p=some (.dT kvs)))\/(T="set"/\∃S n,H p=some (.set S n))
 |_=>False
theorem qb3{pins:List (Addr×Obj)}{σ:St}{H:Hp}{s:Shared}{T:String}{x:V}{v:Value}(I:Inv X pins σ H s)(r:RelV x v)(ty:tyV X.K T x H) :
  s.TypeIs v T/\∀a,v=.ref a->∃ob,s.heap.get? a=some ob/\ob.dict=none:=by
 cases x with
 |str z=>
  obtain⟨t,rfl⟩:=r
  cases (show T="str" from ty)
  exact⟨typeIs_str s z t,λ_ e=>nomatch e⟩
 |int i=>
  obtain⟨t,rfl⟩:=r
  cases (show T="int" from ty)
  exact⟨typeIs_int s i t,λ_ e=>nomatch e⟩
 |ref p=>
  cases r
  rcases ty with ⟨rfl,xs,hq⟩|⟨rfl,o,hk,hc,hd⟩|⟨rfl,hk⟩|⟨rfl,S,n,hk⟩
  ·obtain⟨its,_,pl,_⟩:=I.list hq
   refine⟨pl.isList.typeIs,λa e=>?_⟩
   cases e
   obtain⟨o,n,e,c,hd,_⟩:=pl
   exact⟨o,e,hd⟩
  ·refine⟨⟨o,I.kIn p o hk,hc⟩,λa e=>?_⟩
   cases e
   exact⟨o,I.kIn _ o hk,hd⟩
  ·have z:∃o,s.heap.get? p=some o/\o.ExactDict:=by
    rcases hk with ⟨kvs,hk⟩|⟨kvs,hk⟩
    ·obtain⟨_,_,_,_,o,_,_,e,ex,_⟩:=I.hok p _ hk
     exact⟨o,e,ex⟩
    ·obtain⟨_,_,_,_,o,_,_,e,ex,_⟩:=I.hok p _ hk
     exact⟨o,e,ex⟩
   obtain⟨o,e,ex⟩:=z
   refine⟨⟨o,e,ex.1⟩,λa e2=>?_⟩
   cases e2
   exact⟨o,e,ex.2.1⟩
  ·obtain⟨o,_,_,_,e,ex,_⟩:=I.hok p _ hk
   refine⟨⟨o,e,ex.1⟩,λa e2=>?_⟩
   cases e2
   exact⟨o,e,ex.2.1⟩
 |_=>exact False.elim ty
def tBM0(K:qfa)(T:String)(r:V->List V->Hp->VK->Prop)(to:TE):TE:=λσ H Q=>to σ H λx H1=>tyV K T x H1/\r x [] H1 Q
def tBM(K:qfa)(T:String)(r:V->List V->Hp->VK->Prop)(to:TE)(t:TA):TE:=λσ H Q=>to σ H λx H1=>tyV K T x H1/\t σ H1 λxs H2=>r x xs H2 Q
variable{o e:Expr}{es:List Expr}{to:TE}{t:TA}{name:Str}{apos cpos:Pos}{T id:String}{r:V->List V->Hp->VK->Prop}
theorem zxc(pa:PlainAttrs T)(slot:Slot T name id)(hty:typeOf (.builtin id)=pure (.type "method_descriptor"))(hm:MtR X id r)(ho:PE X o to)(hbase:attributeBase o name X.env (eval o X.env)=eval o X.env:=by rfl)(hline:(apos.endLine == cpos.line)=true:=by rfl):PE X (.Call (.Attribute o name apos) [] [] cpos) (tBM0 X.K T r to):=by
 intro pins s σ H Q I h
 refine wpAny_Call_method0_late hbase hline (thn (ho pins s σ H _ I h) λv s1 ⟨x,H1,I1,r1,ty,q1⟩=>?_)
 obtain⟨h1,h2⟩:=qb3 I1 r1 ty
 exact⟨T,id,pa,slot,hty,h1,h2,Calls.callWith_builtin rfl (PySem.evalArgs_none (hm pins s1 σ H1 x [] v [] Q I1 r1 .nil q1))⟩
theorem zhr(pa:PlainAttrs T)(slot:Slot T name id)(hty:typeOf (.builtin id)=pure (.type "method_descriptor"))(hm:MtR X id r)(ho:PE X o to)(ha:PA X (e::es) t)(hbase:attributeBase o name X.env (eval o X.env)=eval o X.env:=by rfl)(hfew:((backTo cpos (starEach (e::es) X.env)).all (λx=>!x.1) && (backToKw cpos (keywordEach [] X.env)).all (λx=>x.1.isSome)
   && decide ((e::es).length+([]:List Keyword).length+(if ([]:List Keyword).isEmpty then 0 else 1)<30))=true:=by rfl)(hline:(apos.endLine == cpos.line)=true:=by rfl)(hs:starEach (e::es) X.env=(false,eval e X.env)::starEach es X.env:=by rfl)(hplain:(backTo cpos (starEach es X.env)).any (·.1)=false:=by rfl) :
  PE X (.Call (.Attribute o name apos) (e::es) [] cpos) (tBM X.K T r to t):=by
 intro pins s σ H Q I h
 refine wpAny_Call_method_late hbase hfew hline rfl (thn (ho pins s σ H _ I h) λv s1 ⟨x,H1,I1,r1,ty,q1⟩=>?_)
 obtain⟨h1,h2⟩:=qb3 I1 r1 ty
 refine⟨T,id,pa,slot,hty,h1,h2,?_⟩
 have hA:=ha cpos pins s1 σ H1 _ I1 q1
 rw[hs]at hA ⊢
 refine Calls.callWith_builtin (by show (false || (backTo cpos (starEach es X.env)).any (·.1))=false;rw[hplain] <;> rfl) (Calls.evalArgs_plain ?_)
 exact thn hA λus s2 ⟨vs,H2,I2,r2,q2⟩=>hm pins s2 σ H2 x vs v us Q I2 r1 r2 q2
end
def MtM(X:Cx)(id:String)(r:V->List V->Hp->VK->Prop):Prop:=
 ∀(pins:List (Addr×Obj))(s:Shared)(σ:St)(H:Hp)(x:V)(xs:List V)(v:Value)(us:List Value)(Q:VK),Inv X pins σ H s->RelV x v->Vals xs us->r x xs H Q ->
  wpAny (model X.prog X.w) X.A (call (.builtin id) (v::us)) (EP X pins σ Q) X.xe s
theorem Vals.one:∀{x:V}{us:List Value},Vals [x] us->∃u,us=[u]/\RelV x u
 |_,_,.cons r .nil=>⟨_,rfl,r⟩
theorem Vals.zero:∀{us:List Value},Vals [] us->us=[]
 |_,.nil=>rfl
theorem Vals.dropLast{xs:List V}{us:List Value}(h:Vals xs us):Vals xs.dropLast us.dropLast:=by
 induction h with
 |nil=>exact .nil
 |cons r t ih=>
  cases t with
  |nil=>exact .nil
  |cons q t'=>exact .cons r ih
theorem Vals.rep{xs:List V}{us:List Value}(h:Vals xs us):∀k:Nat,Vals (qfk k xs).flatten (qfk k us).flatten
 |0=>.nil
 |k+1=>by
  rw[qhd,qhd,qh8,qh8]
  exact Vals.append h (Vals.rep h k)
theorem zvj{α:Type}(l:List α):l.eraseIdx (l.length - 1)=l.dropLast:=by
 induction l with
 |nil=>rfl
 |cons a r ih=>
  cases r with
  |nil=>rfl
  |cons b r=>
   have e:(a::b::r).length - 1=((b::r).length - 1)+1:=by
    have h1:(a::b::r).length=r.length+2:=rfl
    have h2:(b::r).length=r.length+1:=rfl
    lia
   rw[e,List.eraseIdx_cons_succ,ih]
   all_goals rfl
theorem zp2(its:List Value):∀(k:Nat)(acc:List Value),
  List.foldl (λx1 x2=>x1++x2) acc.toArray (qfk k its.toArray)=(acc++(qfk k its).flatten).toArray
 |0,acc=>by simp
 |k+1,acc=>by
  have e:acc.toArray++its.toArray=(acc++its).toArray:=by simp
  have e2:(acc++its)++(qfk k its).flatten=acc++(qfk (k+1) its).flatten:=by
   rw[qhd,qh8,qf7]
  rw[<-e2,<-zp2 its k (acc++its),<-e,qhd,qg5]
section
variable{X:Cx}{pins:List (Addr×Obj)}{σ:St}{H:Hp}{s:Shared}{l b:Addr}{xs ys zs:List V}
theorem Inv.lset{its its':List Value}{n:Nat}{f:Array Value->Array Value}{t':Nat}(I:Inv X pins σ H s)(hH:H l=some (.lst xs))(e:s.heap.get? l=some { cls:=.type "list",data:=.seq its.toArray n })(hf:f its.toArray=its'.toArray)(hv:Vals ys its')(hz:ys.length<=sizeLine) :
  Inv X pins σ (upd H l (.lst ys)) { s with heap:=s.heap.update l (Obj.mapSeq f),toks:=t' }:=by
 have q:=PySem.IsL.update e f
 rw[hf]at q
 refine I.write (x:=l) (e:=l) (by rw[hH];exact trivial) (.inl rfl) (λb' u hb hu=>(Heap.get?_update_other s.heap (Obj.mapSeq f) (Ne.symm hb)).trans hu) ⟨_,q⟩ ?_
 exact⟨hz,its',_,hv,q⟩
theorem Inv.lnew{its:List Value}{t':Nat}(I:Inv X pins σ H s)(hv:Vals ys its)(hz:ys.length<=sizeLine) :
  Inv X pins σ (upd H s.heap.objs.size (.lst ys)) { s with heap:=s.heap.push { cls:=.type "list",data:=.seq its.toArray },toks:=t' }:=
 I.laid (λ_ _ q=>Heap.get?_push_of_some _ q) (qfh _) ⟨hz,its,0,hv,Heap.get?_push_size _ rfl⟩
theorem Inv.fresh(I:Inv X pins σ H s):H s.heap.objs.size=none:=I.hok.fresh (qfh _)
theorem Inv.lstM(I:Inv X pins σ H s)(hH:H l=some (.lst xs)):xs.length<=sizeLine/\∃(its:List Value)(n:Nat),Vals xs its/\xs.length=its.length/\s.heap.get? l=some { cls:=.type "list",data:=.seq its.toArray n }:=by
 obtain⟨z,its,n,r,e⟩:=I.hok l _ hH
 exact⟨z,its,n,r,r.length,e⟩
theorem ztm{n:Nat}(h:n<=sizeLine):Builtin.List.listTooLong n=false:=by
 unfold Builtin.List.listTooLong
 exact decide_eq_false (by lia)
end
section
variable{X:Cx}
def qdp:V->List V->Hp->VK->Prop:=λx vs H Q=>∃l xs y,x=.ref l/\vs=[y]/\H l=some (.lst xs)/\xs.length<sizeLine/\Q .non (upd H l (.lst (xs++[y])))
theorem zbo:MtM X "list.append" qdp:=by
 intro pins s σ H x vs v us Q I rx rv h
 obtain⟨l,xs,y,rfl,rfl,hH,hz,q⟩:=h
 cases rx
 obtain⟨u,rfl,ru⟩:=rv.one
 obtain⟨z,its,n,r,hl,e⟩:=I.lstM hH
 refine call_meets F.slot_list_append ⟨_,e,rfl⟩ F.entry_list_append (F.args_list_append_2 _ _) (PySem.list_append l its.toArray n u (by rw[qfr];lia)) ⟨e,?_⟩
 refine⟨.non,_,I.lset (its':=its++[u]) hH e (by simp) (r.append (.cons ru .nil)) ?_,rfl,q⟩
 rw[qfb,qj7]
 lia
def qdo:V->List V->Hp->VK->Prop:=λx vs H Q=>∃l b xs zs,x=.ref l/\vs=[.ref b]/\H l=some (.lst xs)/\H b=some (.lst zs)/\xs.length+zs.length<=sizeLine/\Q .non (upd H l (.lst (xs++zs)))
theorem zx5:MtM X "list.extend" qdo:=by
 intro pins s σ H x vs v us Q I rx rv h
 obtain⟨l,b,xs,zs,rfl,rfl,hH,hB,hz,q⟩:=h
 cases rx
 obtain⟨u,rfl,ru⟩:=rv.one
 cases ru
 obtain⟨z,its,n,r,hl,e⟩:=I.lstM hH
 obtain⟨z2,its2,n2,r2,hl2,e2⟩:=I.lstM hB
 have hsz:its.toArray.size+its2.toArray.size<=sizeLine:=by rw[qfr,qfr];lia
 have hlong:¬(!its.toArray.isEmpty && Builtin.List.listTooLong (its.toArray.size+its2.toArray.size))=true:=by
  rw[ztm hsz,Bool.and_false]
  exact qfu
 refine call_meets F.slot_list_extend ⟨_,e,rfl⟩ F.entry_list_extend (F.args_list_extend_2 _ _)
  (AutoSeq1.list_extend_list_list_0 l its.toArray n b its2.toArray n2 hlong (by rw[qfr];lia) (by lia)) ⟨e,e2,?_⟩
 refine⟨.non,_,I.lset (its':=its++its2) hH e (by simp) (r.append r2) ?_,rfl,q⟩
 rw[qfb]
 lia
def rPop:V->List V->Hp->VK->Prop:=λx vs H Q=>∃l xs y,x=.ref l/\vs=[]/\H l=some (.lst xs)/\xs[xs.length - 1]?=some y/\Q y (upd H l (.lst xs.dropLast))
theorem zx4:MtM X "list.pop" rPop:=by
 intro pins s σ H x vs v us Q I rx rv h
 obtain⟨l,xs,y,rfl,rfl,hH,hy,q⟩:=h
 cases rx
 have hus:=rv.zero
 subst hus
 obtain⟨z,its,n,r,hl,e⟩:=I.lstM hH
 obtain⟨u,hu,ru⟩:=r.get hy
 have hy':its.toArray[its.toArray.size - 1]?=some u:=by
  show its.toArray[its.length - 1]?=some u
  rw[<-qi1,<-hl]
  exact hu
 refine call_meets F.slot_list_pop ⟨_,e,rfl⟩ F.entry_list_pop (F.args_list_pop_1 _) (MeetsSeq.list_pop_last l its.toArray n u hy' (by rw[qfr];lia)) ⟨e,?_⟩
 refine⟨y,_,I.lset (its':=its.dropLast) hH e ?_ r.dropLast ?_,ru,q⟩
 ·show its.toArray.eraseIdxIfInBounds (its.toArray.size - 1)=its.dropLast.toArray
  rw[qfr,List.eraseIdxIfInBounds_toArray,zvj]
 ·rw[List.length_dropLast]
  lia
def rCat:R2:=λx y H Q=>∃l b xs zs,x=.ref l/\y=.ref b/\H l=some (.lst xs)/\H b=some (.lst zs)/\xs.length+zs.length<=sizeLine/\∀p,H p=none->Q (.ref p) (upd H p (.lst (xs++zs)))
theorem zdr:OpR X (binaryOp .Add) rCat:=by
 intro pins s σ H x y v u Q I rx ry h
 obtain⟨l,b,xs,zs,rfl,rfl,hH,hB,hz,q⟩:=h
 cases rx
 cases ry
 obtain⟨z,its,n,r,hl,e⟩:=I.lstM hH
 obtain⟨z2,its2,n2,r2,hl2,e2⟩:=I.lstM hB
 refine PySem.P.add_list e e2 ?_ (by rw[qfr,qfr];lia)
 have ea:its.toArray++its2.toArray=(its++its2).toArray:=by simp
 rw[ea]
 exact⟨.ref _,_,I.lnew (t':=s.toks) (r.append r2) (by rw[qfb];lia),rfl,q _ I.fresh⟩
def rRep:R2:=λx y H Q=>∃l k xs,x=.ref l/\y=.int k/\H l=some (.lst xs)/\-(2 ^ 63)<=k/\k<2 ^ 63/\xs.length*k.toNat<=sizeLine ∧
 ∀p,H p=none->Q (.ref p) (upd H p (.lst (qfk k.toNat xs).flatten))
theorem zn4{α:Type}(xs:List α)(k:Nat):(qfk k xs).flatten.length=k*xs.length:=by
 induction k with
 |zero=>simp
 |succ k ih=>rw[qhd,qh8,qfb,ih,Nat.succ_mul,qka]
theorem ztg:OpR X (binaryOp .Mult) rRep:=by
 intro pins s σ H x y v u Q I rx ry h
 obtain⟨l,k,xs,rfl,rfl,hH,h1,h2,hz,q⟩:=h
 cases rx
 obtain⟨t,rfl⟩:=ry
 obtain⟨z,its,n,r,hl,e⟩:=I.lstM hH
 have hlen:its.toArray.size*k.toNat<=sizeLine:=by rw[qfr,<-hl];exact hz
 have hcap:¬its.toArray.size*k.toNat > (2 ^ 63 - 1) / 8:=by
  have:(sizeLine:Nat)<=(2 ^ 63 - 1) / 8:=by decide
  lia
 have hfit:¬(!Builtin.List.listFitsIndex k)=true:=by
  rw[fitsIndex_both h1 h2]
  exact qfu
 have hlong:¬Builtin.List.listTooLong (its.toArray.size*k.toNat)=true:=by
  rw[ztm hlen]
  exact qfu
 have hnew:List.foldl (λx1 x2=>x1++x2) #[] (qfk (if its.toArray.isEmpty=true then 0 else k.toNat) its.toArray)=(qfk k.toNat its).flatten.toArray:=by
  have f0:∀m:Nat,List.foldl (λx1 x2=>x1++x2) #[] (qfk m its.toArray)=(qfk m its).flatten.toArray:=λm=>by
   have:=zp2 its m []
   rw[qgm]at this
   exact this
  rw[f0]
  cases its with
  |nil=>simp
  |cons a r'=>rw[if_neg (by simp)]
 refine wpAny_binaryOp_repeat_ref (T:="list") (U:="int") (by decide) ⟨_,e,rfl⟩ (λs'=>typeIs_int s' k t) noFill_list_mul F.fills_int_mul F.slot_int_rmul repeat_list F.slot_int_index.lookup
  (call_meets F.slot_int_rmul (typeIs_int s k t) F.entry_int_rmul (F.args_int_rmul_2 _ _) (int___rmul___int_list k t l its.toArray n)
   ⟨e,rfl,⟨_,e,rfl⟩,call_meets F.slot_list_mul ⟨_,e,rfl⟩ F.entry_list_mul (F.args_list_mul_2 _ _) (AutoListH.list___mul___list_int_3 l its.toArray n k t hfit hcap hlong) ⟨e,?_⟩⟩)
 rw[hnew]
 exact⟨.ref _,_,I.lnew (t':=s.toks) (r.rep k.toNat) (by rw[zn4,Nat.mul_comm];exact hz),rfl,q _ I.fresh⟩
end
theorem Vals.ints:∀{ns:List Int}{us:List Value},Vals (ns.map V.int) us->IntsAre us ns
 |[],us,h=>by
  rw[qio]at h
  cases h
  exact IntsAre.nil
 |n::ns,us,h=>by
  rw[qge]at h
  cases h with
  |cons r t=>
   obtain⟨k,rfl⟩:=r
   exact IntsAre.cons n k (Vals.ints t)
theorem zoq:∀{us:List Value}{ns:List Int},IntsAre us ns->Vals (ns.map V.int) us
 |_,_,.nil=>by rw[qio];exact Paired.nil
 |_,_,.cons n t h=>by rw[qge];exact Paired.cons (show RelV (V.int n) (Value.int n t) from ⟨t,rfl⟩) (zoq h)
theorem Vals.bls:∀{bs:List Bool}{us:List Value},Vals (bs.map V.bl) us->us=bs.map Value.bool
 |[],us,h=>by
  rw[qio]at h
  cases h
  rfl
 |b::bs,us,h=>by
  rw[qge]at h
  cases h with
  |cons r t=>
   cases r
   rw[Vals.bls t,qge]
theorem Vals.ref1{a:Addr}{us:List Value}(r:Vals [V.ref a] us):us=[Value.ref a]:=by
 cases r with
 |cons r t=>
  cases t
  cases r
  rfl
section
variable{prog:Program}{w:World}{A:Around}{E:Value->Shared->Prop}{s:Shared}{l:Addr}{its:List Value}{ns:List Int}{Q:Value->Shared->Prop}
theorem qen(hh:A.handled=none)(hl:s.heap.IsList l its.toArray)(hi:IntsAre its ns)(hne:0<ns.length)(h:∀h' tk M t',(∀b o,s.heap.get? b=some o->h'.get? b=some o)->M∈ns->(∀a,a∈ns->a<=M)->Q (.int M t') { s with heap:=h',toks:=tk }):wpAny (model prog w) A (call (.builtin "max") [.ref l]) Q E s:=by
 obtain⟨xs,e⟩:=hi.allInts.items
 have hn:numsOf (intItems xs).toList=ns:=by rw[<-e];exact hi.numsOf
 rw[nums_intItems]at hn
 subst hn
 rw[e]at hl
 have hsz:0<xs.size:=by simpa using hne
 refine PySem.max_intList hh hl hsz λv h' tk hv hk=>?_
 obtain⟨t,rfl⟩:=intItems_at hv
 obtain⟨h1,h2⟩:=argBest_gt (numAt xs) (xs.size - 1)
 refine h h' tk _ t hk ?_ λa ha=>?_
 ·rw[numAt_eq];exact PySem.getD_mem (by rw[qe9,qhc];lia)
 ·obtain⟨j,hj,rfl⟩:=mem_getD ha
  rw[qe9,qhc]at hj
  rw[<-numAt_eq];exact h2 j (by lia)
theorem qem(hh:A.handled=none)(hl:s.heap.IsList l its.toArray)(hi:IntsAre its ns)(hne:0<ns.length)(h:∀h' tk M t',(∀b o,s.heap.get? b=some o->h'.get? b=some o)->M∈ns->(∀a,a∈ns->M<=a)->Q (.int M t') { s with heap:=h',toks:=tk }):wpAny (model prog w) A (call (.builtin "min") [.ref l]) Q E s:=by
 obtain⟨xs,e⟩:=hi.allInts.items
 have hn:numsOf (intItems xs).toList=ns:=by rw[<-e];exact hi.numsOf
 rw[nums_intItems]at hn
 subst hn
 rw[e]at hl
 have hsz:0<xs.size:=by simpa using hne
 refine PySem.min_intList hh hl hsz λv h' tk hv hk=>?_
 obtain⟨t,rfl⟩:=intItems_at hv
 obtain⟨h1,h2⟩:=argBest_lt (numAt xs) (xs.size - 1)
 refine h h' tk _ t hk ?_ λa ha=>?_
 ·rw[numAt_eq];exact PySem.getD_mem (by rw[qe9,qhc];lia)
 ·obtain⟨j,hj,rfl⟩:=mem_getD ha
  rw[qe9,qhc]at hj
  rw[<-numAt_eq];exact h2 j (by lia)
end
section
variable{X:Cx}
def rMax(K:qfa):List V->Hp->VK->Prop:=λvs H Q=>∃(a:Addr)(ns:List Int),vs=[V.ref a]/\SqL K H a (ns.map V.int)/\0<ns.length/\∀m,m∈ns->(∀y,y∈ns->y<=m)->Q (.int m) H
def rMin(K:qfa):List V->Hp->VK->Prop:=λvs H Q=>∃(a:Addr)(ns:List Int),vs=[V.ref a]/\SqL K H a (ns.map V.int)/\0<ns.length/\∀m,m∈ns->(∀y,y∈ns->m<=y)->Q (.int m) H
theorem cr_max(hc:X.calm=true):zmn X (.builtin "max") (rMax X.K):=by
 intro pins s σ H vs us Q I r h
 obtain⟨a,ns,rfl,hs,hne,q⟩:=h
 obtain⟨its,rv,hl,_⟩:=I.list hs
 rw[Vals.ref1 r]
 exact qen (I.ok.hd hc) hl.isList rv.ints hne λh' tk m t' hk h1 h2=>⟨.int _,H,I.kept hk,⟨_,rfl⟩,q m h1 h2⟩
theorem cr_min(hc:X.calm=true):zmn X (.builtin "min") (rMin X.K):=by
 intro pins s σ H vs us Q I r h
 obtain⟨a,ns,rfl,hs,hne,q⟩:=h
 obtain⟨its,rv,hl,_⟩:=I.list hs
 rw[Vals.ref1 r]
 exact qem (I.ok.hd hc) hl.isList rv.ints hne λh' tk m t' hk h1 h2=>⟨.int _,H,I.kept hk,⟨_,rfl⟩,q m h1 h2⟩
end
theorem ztu{prog:Program}{w:World}{A:Around}{E:Value->Shared->Prop}{s:Shared}{l:Addr}{items:Array Value}{Q:Value->Shared->Prop}(hl:s.heap.IsList l items)(h:∀s₂:Shared,s₂={ s with heap:=s.heap.push { cls:=.type "list_iterator",data:=.fields #[.ref l,.int 0 0] } } ->
   (s₂.heap.IsListIter s.heap.objs.size l 0/\s₂.heap.IsList l items)->l≠s.heap.objs.size->Q (.ref s.heap.objs.size) s₂):wpAny (model prog w) A (pyIter (.ref l)) Q E s:=by
 have hlt:l<s.heap.objs.size:=by obtain⟨_,e,_⟩:=hl;exact Heap.lt_size e
 exact wpAny_pyIter_list hl (h _ rfl ⟨⟨_,Heap.get?_push_size _ rfl,rfl,rfl⟩,hl.push _⟩ (qf6 hlt))
theorem zq0{prog:Program}{w:World}{A:Around}{bs:List Bool}{its:List Value}(e:its=bs.map Value.bool) :
  TruthOf prog w A (λi v=>its.toArray[i]?=some v) (λi=>bs.getD i false):=λi v s Q E hv hq=>by
 have hv':its[i]?=some v:=by simpa using hv
 rw[e,qfe]at hv'
 obtain⟨b,hb,rfl⟩:=qff.mp hv'
 have hg:bs.getD i false=b:=by rw[qgg,hb] <;> rfl
 have hq':Q (bs.getD i false) s:=hq
 rw[hg]at hq'
 exact wpAny_truthy_bool hq'
theorem zql:∀bs:List Bool,(qgh bs.length).any (λi=>bs.getD i false)=bs.any id
 |[]=>rfl
 |b::bs=>by
  rw[qfd,qj2,qhz,List.any_map,qhz,<-zql bs]
  all_goals rfl
theorem zqn:∀bs:List Bool,(qgh bs.length).all (λi=>bs.getD i false)=bs.all id
 |[]=>rfl
 |b::bs=>by
  rw[qfd,qj2,qhy,qjf,qhy,<-zqn bs]
  all_goals rfl
section
variable{X:Cx}
def rAll(K:qfa):List V->Hp->VK->Prop:=λvs H Q=>∃(a:Addr)(bs:List Bool),vs=[V.ref a]/\SqL K H a (bs.map V.bl)/\Q (.bl (bs.all id)) H
theorem cr_all(hc:X.calm=true):zmn X (.builtin "all") (rAll X.K):=by
 intro pins s σ H vs us Q I r h
 obtain⟨a,bs,rfl,hs,q⟩:=h
 obtain⟨its,rv,hl,_⟩:=I.list hs
 rw[Vals.ref1 r]
 have hb:=rv.bls
 refine call_all_walk (ztu hl.isList λs₂ e2 st hne=>?_)
 subst e2
 refine⟨_,_,_,_,_,_,_,rfl,Walks.list (A:=X.A.in1) (I.ok.hd hc) _ a hne its.toArray,st,zq0 hb,λh' tk hk=>?_⟩
 refine⟨.bl _,H,I.kept λb o eo=>hk b o (λhmem=>?_) (Heap.get?_push_of_some _ eo),?_,q⟩
 ·rcases qfo.mp hmem with e1|hmem
  ·exact absurd (e1▸Heap.lt_size eo) (qhf _)
  ·cases hmem
 ·show Value.bool _=Value.bool _
  rw[<-zqn,hb,qfr,qe9]
end
abbrev qcq(h:Heap)(c:Addr)(v:Option Value):Prop:=h.IsCell c v
def relS(scope sc:Scope):Scope:=
 { scope with names:=scope.names.map λ(n,k)=>if (k == .free && sc.kind == .function && sc.names.lookup n == some .cell) then (n,.cell) else (n,k) }
def za2(cells:List (Str×Addr)):List (Str×NameKind)->List (Str×Addr)->List (Str×Addr)
 |[],acc=>acc
 |(n,k)::r,acc=>if k == .free then za2 cells r ((n,(cells.lookup n).getD 0)::acc) else za2 cells r acc
theorem zji(env:Env)(f:Str×NameKind->List (Str×Addr)->Sem (ForInStep (List (Str×Addr))))(hf:∀n k c,f (n,k) c=if k == .free then (do let a <-cellOf env n;pure (.yield ((n,a)::c))) else pure (.yield c)) :
  ∀(names:List (Str×NameKind))(acc:List (Str×Addr)),(∀y∈names,y.2=.free->∃c,env.cells.lookup y.1=some c)->forIn names acc f=pure (za2 env.cells names acc)
 |[],acc,_=>by rw[qic];rfl
 |(n,k)::r,acc,h=>by
  rw[qit,hf]
  have ih:=λacc=>zji env f hf r acc λy hy=>h y (qf8 _ hy)
  unfold za2
  by_cases hk:(k == NameKind.free)=true
  ·rw[if_pos hk,if_pos hk]
   obtain⟨c,hc⟩:=h (n,k) qgu (by simpa using hk)
   have e:cellOf env n=pure c:=by unfold cellOf;rw[hc]
   rw[e]
   have e2:(env.cells.lookup n).getD 0=c:=by rw[hc];rfl
   rw[e2]
   exact ih _
  ·rw[if_neg hk,if_neg hk]
   exact ih _
theorem ziu{scope:Scope}{env:Env}(h:∀y∈scope.names,y.2=.free->∃c,env.cells.lookup y.1=some c):closureFor scope env=pure (za2 env.cells scope.names []):=by
 simp only[closureFor]
 rw[zji env _ (λn k c=>rfl) scope.names [] h]
 rfl
theorem zio{α:Type}:∀{l:List (Str×α)}{n:Str}{c:α},(n,c)∈l->∃c',l.lookup n=some c'
 |(k,v)::r,n,c,h=>by
  rw[qhp]
  cases hb:n == k with
  |true=>exact⟨_,rfl⟩
  |false=>
   rcases qfo.mp h with e|h
   ·cases e;simp at hb
   ·exact zio h
theorem zey{cells:List (Str×Addr)}:∀{names:List (Str×NameKind)}{acc:List (Str×Addr)}{n:Str}{c:Addr},(n,c)∈za2 cells names acc->(n,c)∈acc\/((n,.free)∈names/\c=(cells.lookup n).getD 0)
 |[],_,_,_,h=>.inl h
 |(m,k)::r,acc,n,c,h=>by
  unfold za2 at h
  split at h
  ·rename_i hk
   have hk:k=.free:=by simpa using hk
   rcases zey h with h|⟨h1,h2⟩
   ·rcases qfo.mp h with e|h
    ·cases e;exact .inr ⟨hk▸qgu,rfl⟩
    ·exact .inl h
   ·exact .inr ⟨qf8 _ h1,h2⟩
  ·rcases zey h with h|⟨h1,h2⟩
   ·exact .inl h
   ·exact .inr ⟨qf8 _ h1,h2⟩
theorem zg7{cells:List (Str×Addr)}:∀{names:List (Str×NameKind)}{acc:List (Str×Addr)}{p:Str×Addr},p∈acc->p∈za2 cells names acc
 |[],_,_,h=>h
 |(m,k)::r,acc,p,h=>by
  unfold za2
  split
  ·exact zg7 (qf8 _ h)
  ·exact zg7 h
theorem zg6{cells:List (Str×Addr)}:∀{names:List (Str×NameKind)}{acc:List (Str×Addr)}{n:Str},(n,.free)∈names->(n,(cells.lookup n).getD 0)∈za2 cells names acc
 |(m,k)::r,acc,n,h=>by
  unfold za2
  rcases qfo.mp h with e|h
  ·cases e
   exact zg7 qgu
  ·split
   ·exact zg6 h
   ·exact zg6 h
theorem zfu:∀{names:List (Str×NameKind)}{h:Heap}{acc:List (Str×Addr)}{x:Str}{c:Addr},(x,c)∈cellsFrom h.objs.size names acc ->
  (x,c)∈acc\/((x,.cell)∈names/\h.objs.size<=c/\qcq (pushCells h names) c none)
 |[],_,_,_,_,h=>.inl h
 |(n,k)::r,h,acc,x,c,hm=>by
  unfold cellsFrom at hm
  unfold pushCells
  split at hm
  ·rename_i hk
   rw[if_pos hk]
   have hk:k=.cell:=by simpa using hk
   rw[<-Heap.size_push h { cls:=.type "cell",data:=.cell none }]at hm
   rcases zfu hm with hm|⟨h1,h2,h3⟩
   ·rcases qfo.mp hm with e|hm
    ·cases e
     exact .inr ⟨hk▸qgu,qfh _,_,pushCells_keeps r _ _ _ (Heap.get?_push_size _ rfl),rfl⟩
    ·exact .inl hm
   ·rw[Heap.size_push]at h2
    exact .inr ⟨qf8 _ h1,qiw h2,h3⟩
  ·rename_i hk
   rw[if_neg hk]
   rcases zfu hm with hm|⟨h1,h2,h3⟩
   ·exact .inl hm
   ·exact .inr ⟨qf8 _ h1,h2,h3⟩
theorem zh4:∀{names:List (Str×NameKind)}{n:Nat}{acc:List (Str×Addr)}{p:Str×Addr},p∈acc->p∈cellsFrom n names acc
 |[],_,_,_,h=>h
 |(m,k)::r,n,acc,p,h=>by
  unfold cellsFrom
  split
  ·exact zh4 (qf8 _ h)
  ·exact zh4 h
theorem zlj:∀{names:List (Str×NameKind)}{n:Nat}{acc:List (Str×Addr)}{x:Str},(x,.cell)∈names->∃c,(x,c)∈cellsFrom n names acc
 |(m,k)::r,n,acc,x,h=>by
  unfold cellsFrom
  rcases qfo.mp h with e|h
  ·cases e
   exact⟨n,zh4 qgu⟩
  ·split
   ·exact zlj h
   ·exact zlj h
theorem zli:∀{names:List (Str×NameKind)}{h:Heap}{acc:List (Str×Addr)}{x y:Str}{c:Addr},(∀p∈acc,p.2<h.objs.size)->(∀x y c,(x,c)∈acc->(y,c)∈acc->x=y) ->
  (x,c)∈cellsFrom h.objs.size names acc->(y,c)∈cellsFrom h.objs.size names acc->x=y
 |[],_,_,_,_,_,_,hi,h1,h2=>hi _ _ _ h1 h2
 |(n,k)::r,h,acc,x,y,c,hl,hi,h1,h2=>by
  unfold cellsFrom at h1 h2
  split at h1
  ·rename_i hk
   rw[if_pos hk]at h2
   rw[<-Heap.size_push h { cls:=.type "cell",data:=.cell none }]at h1 h2
   refine zli (h:=h.push _) (λp hp=>?_) (λx y c a b=>?_) h1 h2
   ·rw[Heap.size_push]
    rcases qfo.mp hp with rfl|hp
    ·exact qjy _
    ·exact qix (hl p hp)
   ·rcases qfo.mp a with e|a <;> rcases qfo.mp b with e'|b
    ·cases e;cases e';rfl
    ·cases e;exact absurd (hl _ b) (qhf _)
    ·cases e';exact absurd (hl _ a) (qhf _)
    ·exact hi _ _ _ a b
  ·rename_i hk
   rw[if_neg hk]at h2
   exact zli hl hi h1 h2
theorem zkz{M:Model}{A:Around}{E:Value->Shared->Prop}{s:Shared}{scope:Scope}{globals:Addr}{closure:List (Str×Addr)}{qual:Str}{func:Option Addr}{code:Value}{around:Env}{builtins:Addr}{Q:Env->Shared->Prop}(h:Q (newEnv scope s.heap.objs.size globals (cellsFrom (s.heap.objs.size+1) scope.names closure) qual func code (some around) builtins)
   { s with heap:=pushCells (s.heap.push { cls:=.type "dict",data:=.dict #[] }) scope.names }) :
  wpAny M A (newFunctionEnv scope globals closure [] qual func code (some around) builtins) Q E s:=by
 simp only[newFunctionEnv,Option.isSome_some,if_true]
 refine wpAny_bind (wpAny_alloc ?_)
 refine wpAny_bind (wpAny_layCells _ (λn k c=>rfl) scope.names closure _ _ ?_)
 rw[show ({ s with heap:=s.heap.push { cls:=.type "dict",data:=.dict #[] } }:Shared).heap.objs.size=s.heap.objs.size+1 from Heap.size_push ..]
 rw[qic]
 exact wpAny_bind (wpAny_pure (wpAny_pure h))
theorem zgz{sc:Scope}:∀{names:List (Str×NameKind)}{x:Str}{k:NameKind},
  (names.map λ(n,k)=>if (k == NameKind.free && sc.kind == .function && sc.names.lookup n == some .cell) then (n,NameKind.cell) else (n,k)).lookup x=some k ->
  ∃k',names.lookup x=some k'/\(k=k'\/(k'=.free/\k=.cell))
 |[],_,_,h=>by simp at h
 |(n,k₀)::r,x,k,h=>by
  have ih:=@zgz sc r x k
  have h':qim x ((if (k₀ == NameKind.free && sc.kind == .function && sc.names.lookup n == some .cell)=true then (n,NameKind.cell) else (n,k₀))::(r.map _))=some k:=h
  cases hx:x == n with
  |true=>
   simp only[qhp,hx]
   by_cases hc:(k₀ == NameKind.free && sc.kind == .function && sc.names.lookup n == some .cell)=true
   ·rw[if_pos hc]at h'
    simp only[qhp,hx]at h'
    cases h'
    simp only[qft,beq_iff_eq]at hc
    exact⟨k₀,rfl,.inr ⟨hc.1.1,rfl⟩⟩
   ·rw[if_neg hc]at h'
    simp only[qhp,hx]at h'
    cases h'
    exact⟨_,rfl,.inl rfl⟩
  |false=>
   simp only[qhp,hx]
   by_cases hc:(k₀ == NameKind.free && sc.kind == .function && sc.names.lookup n == some .cell)=true
   ·rw[if_pos hc]at h'
    simp only[qhp,hx]at h'
    exact ih h'
   ·rw[if_neg hc]at h'
    simp only[qhp,hx]at h'
    exact ih h'
structure zsr(N:List Str)(sc scope:Scope)(own:List (Str×Nat)):Prop where
 kind:scope.kind=.function
 uniq:∀y∈scope.names,scope.names.lookup y.1=some y.2
 ix:∀p∈own,N[p.2]?=some p.1
 free:∀y∈scope.names,y.2=.free->sc.names.lookup y.1=some .cell\/sc.names.lookup y.1=some .free
 own:∀y∈scope.names,y.2=.local\/y.2=.cell->y.1∈own.map (·.1)\/y.1 ∉ N
def zdh(σ:St):List Nat->St
 |[]=>σ
 |v::vs=>(zdh σ vs).set v none
theorem zes(σ:St):∀vs:List Nat,(zdh σ vs).length=σ.length
 |[]=>rfl
 |v::vs=>by unfold zdh;rw[qj6,zes σ vs]
theorem zhd{σ:St}{i:Nat}{x:V}:∀{vs:List Nat},(zdh σ vs)[i]?=some (some x)->σ[i]?=some (some x)/\i ∉ vs
 |[],h=>⟨h,by simp⟩
 |v::vs,h=>by
  unfold zdh at h
  by_cases hi:v=i
  ·subst hi
   by_cases hv:v<(zdh σ vs).length
   ·rw[qiv hv]at h;cases h
   ·rw[qgv (by simpa using hv)]at h;cases h
  ·rw[qi8 hi]at h
   obtain⟨h1,h2⟩:=zhd h
   exact⟨h1,by simp only[qfo,not_or];exact⟨λe=>hi e.symm,h2⟩⟩
abbrev Cx.blk(X:Cx)(s:Shared)(H:Hp)(scope:Scope)(cenv:Env)(fp:List Addr):Cx:={ X with s₀:=s,H₀:=H,env:=cenv,outer:=X.stack,ex:=fp,fn:=λx=>scope.names.lookup x == some .cell,pn:=[],xe:=λ_ _=>False }
section
variable{X:Cx}{pins:List (Addr×Obj)}{σ:St}{H:Hp}{s:Shared}
theorem zlo{scope:Scope}{own:List (Str×Nat)}{fp:List Addr}(I:Inv X pins σ H s)(ok:zsr X.N X.env.scope scope own)(hN:X.N.Nodup)(hfp:∀b∈fp,zon X pins H b/\b<s.heap.objs.size) :
  Inv (X.blk s H scope (compEnvC scope (cellsFrom (s.heap.objs.size+1) scope.names (za2 X.env.cells scope.names [])) s.heap.objs.size X.env) fp) [] (zdh σ (own.map (·.2))) H { s with heap:=pushCells (s.heap.push { cls:=.type "dict",data:=.dict #[] }) scope.names }:=by
 have hfree:∀y∈scope.names,y.2=.free->∃c,X.env.cells.lookup y.1=some c:=λy hy e=>by
  rcases ok.free y hy e with k|k
  ·exact I.ok.has _ (.inl k)
  ·exact I.ok.has _ (.inr k)
 generalize hcenv:compEnvC scope (cellsFrom (s.heap.objs.size+1) scope.names (za2 X.env.cells scope.names [])) s.heap.objs.size X.env=cenv
 have kp:∀b o,s.heap.get? b=some o->(pushCells (s.heap.push { cls:=.type "dict",data:=.dict #[] }) scope.names).get? b=some o:=λb o e=>pushCells_keeps _ _ _ _ (Heap.get?_push_of_some _ e)
 have hL:cenv.locals=s.heap.objs.size:=by rw[<-hcenv];rfl
 have hcl:cenv.cells=cellsFrom (s.heap.objs.size+1) scope.names (za2 X.env.cells scope.names []):=by rw[<-hcenv];rfl
 have hsc:cenv.scope=relS scope X.env.scope:=by rw[<-hcenv];rfl
 rw[<-Heap.size_push s.heap { cls:=.type "dict",data:=.dict #[] }]at hcl
 have cm:∀{y c},(y,c)∈za2 X.env.cells scope.names []->X.env.cells.lookup y=some c/\c<s.heap.objs.size:=λ{y c} hm=>by
  rcases zey hm with hm|⟨h1,rfl⟩
  ·cases hm
  ·obtain⟨c,hc⟩:=hfree _ h1 rfl
   rw[hc]
   obtain⟨w,z⟩:=I.cell _ _ hc
   exact⟨rfl,z.lt⟩
 have mem:∀{y c},cenv.cells.lookup y=some c->(X.env.cells.lookup y=some c/\c<s.heap.objs.size)\/(s.heap.objs.size+1<=c/\qcq (pushCells (s.heap.push { cls:=.type "dict",data:=.dict #[] }) scope.names) c none):=λ{y c} e=>by
  rw[hcl]at e
  rcases zfu (PySem.mem_of_lookup e) with hm|⟨_,h2,h3⟩
  ·exact .inl (cm hm)
  ·rw[Heap.size_push]at h2;exact .inr ⟨h2,h3⟩
 have look:∀{y},scope.names.lookup y=some .free->∃c,cenv.cells.lookup y=some c/\X.env.cells.lookup y=some c:=λ{y} hl=>by
  have hy:(y,NameKind.free)∈scope.names:=PySem.mem_of_lookup hl
  obtain⟨c',e'⟩:=zio (zh4 (names:=scope.names) (n:=(s.heap.push { cls:=.type "dict",data:=.dict #[] }).objs.size) (zg6 (cells:=X.env.cells) (acc:=[]) hy))
  rw[<-hcl]at e'
  refine⟨c',e',?_⟩
  rw[hcl]at e'
  rcases zfu (PySem.mem_of_lookup e') with hm|⟨h1,_,_⟩
  ·exact (cm hm).1
  ·have:=ok.uniq _ h1
   rw[hl]at this;cases this
 have okB:(X.blk s H scope cenv fp).Ok:=by
  refine⟨I.ok.mod,by show cenv.scope.kind=_;rw[hsc];exact ok.kind,by show cenv.globals=_;rw[<-hcenv];exact I.ok.glob,by show cenv.builtins=_;rw[<-hcenv];exact I.ok.blt,by show s.heap.objs.size<=cenv.locals;rw[hL];exact qfh _,
   λy z c e1 e2=>?_,λy hy=>?_,λy c z e=>?_,I.ok.hd,I.ok.frames,.inl rfl,λb hb=>⟨?_,λy c e z=>?_⟩,I.bs,qgn I.ok.bsz I.sz,λb o e hb=>?_,λb hb z=>?_,I.stack,I.stkFree⟩
  ·have e1:cenv.cells.lookup y=some c:=e1
   have e2:cenv.cells.lookup z=some c:=e2
   rw[hcl]at e1 e2
   refine zli (λp hp=>?_) (λy z c a b=>I.ok.inj y z c (cm a).1 (cm b).1) (PySem.mem_of_lookup e1) (PySem.mem_of_lookup e2)
   rw[Heap.size_push]
   exact qix (cm (y:=p.1) (c:=p.2) hp).2
  ·show ∃c,cenv.cells.lookup y=some c
   have key:∀k,cenv.kindOf y=some k->(k=.cell\/k=.free)->∃c,cenv.cells.lookup y=some c:=λk hk hk'=>by
    unfold Env.kindOf at hk
    rw[hsc]at hk
    obtain⟨k',e,r⟩:=zgz hk
    have:k'=.cell\/k'=.free:=by
     rcases r with rfl|⟨rfl,_⟩
     ·exact hk'
     ·exact .inr rfl
    rcases this with rfl|rfl
    ·obtain⟨c,hm⟩:=zlj (n:=(s.heap.push { cls:=.type "dict",data:=.dict #[] }).objs.size) (acc:=za2 X.env.cells scope.names []) (PySem.mem_of_lookup e)
     obtain⟨c',e'⟩:=zio hm
     exact⟨c',by rw[hcl];exact e'⟩
    ·obtain⟨c,h1,_⟩:=look e
     exact⟨c,h1⟩
   rcases hy with hy|hy
   ·exact key _ hy (.inl rfl)
   ·exact key _ hy (.inr rfl)
  ·have z:(scope.names.lookup y == some NameKind.cell)=true:=z
   have z:scope.names.lookup y=some .cell:=by simpa using z
   have e:cenv.cells.lookup y=some c:=e
   rw[hcl]at e
   rcases zfu (PySem.mem_of_lookup e) with hm|⟨_,h2,_⟩
   ·rcases zey hm with hm|⟨h1,_⟩
    ·cases hm
    ·have q:=ok.uniq _ h1
     rw[z]at q;cases q
   ·rw[Heap.size_push]at h2
    exact qiw h2
  ·show b≠cenv.locals
   rw[hL];exact qf6 (hfp b hb).2
  ·have e:cenv.cells.lookup y=some c:=e
   rcases mem e with ⟨h1,_⟩|⟨h1,_⟩
   ·exact (hfp b hb).1.2.2.2.2.1 y c h1 z
   ·have h2:s.heap.objs.size+1<=b:=by rw[<-z];exact h1
    exact absurd (qfn (hfp b hb).2 (qiw h2)) (qhf _)
  ·rcases (hfp b hb).1.2.2.2.1 with z|z
   ·exact I.ok.noex b o e z
   ·exact absurd (qfn (Heap.lt_size e) (qgn I.ok.bsz z)) (qhf _)
  ·rcases qfo.mp (I.stkSub b z) with z|z
   ·exact (hfp b hb).1.2.1 z
   ·exact (hfp b hb).1.2.2.1 z
 refine⟨okB,rfl,I.bare,Un.kept kp,⟨λ_=>none,?_,λi y av e1 e2 e3=>?_⟩,λy c e=>?_,?_,λy c e=>?_,λp hp=>?_,I.hok.kept kp,by rw[zes];exact I.len⟩
 ·show Heap.Ns _ cenv.locals _
  rw[hL]
  exact Heap.Ns.keeps (Heap.Ns.new ..) λb o e=>pushCells_keeps _ _ _ _ e
 ·obtain⟨e2,hne⟩:=zhd e2
  have hfr:scope.names.lookup y=some .free/\(cenv.kindOf y=some .cell\/cenv.kindOf y=some .free):=by
   have key:∀k,cenv.scope.names.lookup y=some k->k=.local\/k=.cell\/k=.free->scope.names.lookup y=some .free/\(cenv.kindOf y=some .cell\/cenv.kindOf y=some .free):=λk hk hk'=>by
    have hk0:=hk
    rw[hsc]at hk
    obtain⟨k',e,r⟩:=zgz hk
    have no:¬(k'=.local\/k'=.cell):=λhh=>by
     rcases ok.own _ (PySem.mem_of_lookup e) hh with e'|e'
     ·obtain⟨p,hp,hpy⟩:=qf0.mp e'
      have e3:=ok.ix p hp
      have:p.1=y:=hpy
      rw[this]at e3
      exact hne (qf0.mpr ⟨p,hp,znz hN e3 e1⟩)
     ·exact e' (qfw e1)
    rcases r with rfl|⟨rfl,rfl⟩
    ·rcases hk' with rfl|rfl|rfl
     ·exact absurd (.inl rfl) no
     ·exact absurd (.inr rfl) no
     ·exact⟨e,.inr hk0⟩
    ·exact⟨e,.inl hk0⟩
   have e3:Vis cenv.scope y:=e3
   rcases e3 with e3|e3|e3
   ·exact key _ e3 (.inl rfl)
   ·exact key _ e3 (.inr (.inl rfl))
   ·exact key _ e3 (.inr (.inr rfl))
  obtain⟨m,hn,hl⟩:=I.loc
  have hvis:Vis X.env.scope y:=(ok.free _ (PySem.mem_of_lookup hfr.1) rfl).elim (λk=>.inr (.inl k)) (λk=>.inr (.inr k))
  obtain⟨w,r,q⟩:=hl i y av e1 e2 hvis
  refine⟨w,r,.inr ⟨hfr.2,?_⟩⟩
  obtain⟨c,h1,h2⟩:=look hfr.1
  rcases q with ⟨k,_⟩|⟨_,c',e',z⟩
  ·have k:X.env.scope.names.lookup y=some .local:=k
   rcases ok.free _ (PySem.mem_of_lookup hfr.1) rfl with k'|k' <;> rw[show X.env.scope.names.lookup y=_ from k']at k <;> cases k
  ·rw[h2]at e';cases e'
   exact⟨c,h1,z.keeps kp⟩
 ·have e:cenv.cells.lookup y=some c:=e
  rcases mem e with ⟨h1,_⟩|⟨_,z⟩
  ·obtain⟨w,z⟩:=I.cell y c h1
   exact⟨w,z.keeps kp⟩
  ·exact⟨_,z⟩
 ·show H cenv.locals=none
  rw[hL];exact I.hok.fresh (qfh _)
 ·have e:cenv.cells.lookup y=some c:=e
  rcases mem e with ⟨h1,_⟩|⟨h1,_⟩
  ·exact I.freeC y c h1
  ·exact I.hok.fresh (qiw h1)
 ·exact absurd (show p∈([]:List (Addr×Obj))++[] from hp) (by simp)
theorem qcn{E:Value->Shared->Prop}{D:Addr}{xs:List V}{y:V}{v:Value}{Q:Value->Shared->Prop}(I:Inv X pins σ H s)(hD:H D=some (.lst xs))(hz:xs.length<sizeLine)(r:RelV y v)(h:∀s',Inv X pins σ (upd H D (.lst (xs++[y]))) s'->Q .none s'):wpAny (model X.prog X.w) X.A (call (.builtin "list.append") [.ref D,v]) Q E s:=by
 obtain⟨hz',its,n,ri,e⟩:=I.hok D _ hD
 have hl:=ri.length
 refine append_at (hsz:=by rw[qfr];lia) e λh' sb ho'=>?_
 refine h { s with heap:=h' } (I.write (t':=s.toks) (by rw[hD];trivial) (.inl rfl) (λb u hb q=>(sb.2 b hb).trans q) ⟨_,ho'⟩ ⟨by rw[qfb];exact hz,its++[v],n+1,ri.append (.cons r .nil),?_⟩)
 rw[ho']
 simp
def PTs(X:Cx)(ifs:List Expr)(t:TT):Prop:=
 ∀(pins:List (Addr×Obj))(s:Shared)(σ:St)(H:Hp)(Q:Bool->Hp->Prop),Inv X pins σ H s->t σ H Q ->
  wpAny (model X.prog X.w) X.A (forIn ifs true λc r=>if r=true then do let ok <-isTrue c X.env (eval c X.env);pure (ForInStep.yield ok) else pure (ForInStep.yield r)) (TP X pins σ Q) X.xe s
def tYes:TT:=λ_ H Q=>Q true H
theorem zcp:PTs X [] tYes:=λ_ _ _ H _ I h=>wpAny_tests_nil ⟨H,I,h⟩
theorem qdq{c:Expr}{t:TT}(h:PT X c t):PTs X [c] t:=λpins s σ H Q I hw=>wpAny_tests_one (h pins s σ H Q I hw)
end
theorem zwf{α:Type}{t:Sem α}{Q Q':α->Shared->Prop}{M:Model}{A:Around}{E:Value->Shared->Prop}{s:Shared}(h:wpAny M A t Q (λ_ _=>False) s)(hQ:∀a s,Q a s->Q' a s):wpAny M A t Q' E s:=wpAny_mono h hQ λ_ _ z=>False.elim z
theorem zjh{prog:Program}{w:World}{A:Around}{R:Result->Shared->Prop}{s:Shared}{elt target iter:Expr}{ifs:List Expr}{scope:Scope}{pos:Pos}{it acc:Value}{env:Env}(I:Nat->Shared->Prop)(turn:∀n s,I n s->wpAny (model prog w) A (pyNext it) (λr s₁=>match r with
   |none=>R (.ok .next) s₁
   |some v=>wpAny (model prog w) A (letOwnedTupleGo target it v) (λ_ s₁'=>wpAny (model prog w) A (assign target env v) (λ_ s₂=>
     wpAny (model prog w) A (forIn ifs true λc r=>if r=true then do let ok <-isTrue c env (eval c env);pure (ForInStep.yield ok) else pure (ForInStep.yield r)) (λok s₃=>
      if ok=true then wpAny (model prog w) A (eval elt env) (λx s₄=>
       wpAny (model prog w) A (call (.builtin "list.append") [acc,x]) (λ_ s₅=>∃m,m<n/\I m s₅) (notedBy (model prog w) A env λe s'=>R (.error e) s') s₄) (notedBy (model prog w) A env λe s'=>R (.error e) s') s₃
      else ∃m,m<n/\I m s₃) (notedBy (model prog w) A env λe s'=>R (.error e) s') s₂) (notedBy (model prog w) A env λe s'=>R (.error e) s') s₁') (notedBy (model prog w) A env λe s'=>R (.error e) s') s₁) (notedBy (model prog w) A env λe s'=>R (.error e) s') s)(n:Nat)(h:I n s) :
  codeAny (model prog w) A (.compLoop (.ListComp elt [⟨target,iter,ifs,0⟩] scope pos) 0 it acc env) R s:=by
 refine codeAny_loop rfl I (λn s hI=>?_) n h
 show wpAny _ A ((compTurn (.ListComp elt [⟨target,iter,ifs,0⟩] scope pos) 0 it acc env).onRaise (λx=>do noteFrame x env;theTreesLotGoes x)) _ _ s
 refine wpAny_noted ?_
 rw[compTurn_list]
 refine wpAny_bind (wpAny_standAt (wpAny_bind (wpAny_mono (turn n s hI) (λr s₁ h₁=>?_) λ_ _ h'=>h')))
 cases r with
 |none=>exact wpAny_pure h₁
 |some v=>
  refine wpAny_bind (wpAny_mono h₁ (λ_ s₁' h₁'=>?_) λ_ _ h'=>h')
  refine wpAny_bind (wpAny_mono h₁' (λ_ s₂ h₂=>wpAny_bind (wpAny_mono h₂ (λok s₃ h₃=>?_) λ_ _ h'=>h')) λ_ _ h'=>h')
  cases ok with
  |false=>exact wpAny_pure ⟨rfl,h₃⟩
  |true=>
   exact wpAny_bind (wpAny_bind (wpAny_mono h₃ (λx s₄ h₄=>wpAny_bind (wpAny_mono h₄ (λ_ s₅ h₅=>wpAny_pure (wpAny_pure ⟨rfl,h₅⟩)) λ_ _ h'=>h')) λ_ _ h'=>h'))
section
variable{X:Cx}
def tLc(wi:TI)(g:TG)(tt:TT)(te:TE)(vs:List Nat):TE:=λσ H Q=>wi σ H λJ H1=>∀D,H1 D=none->∃W:Nat->Nat->Hp->Prop,(∃m,W 0 m (upd H1 D (.lst [])))/\∀i m H,W i m H ->
 (J.stop i H/\Q (.ref D) H)\/(J.go i H/\∃Nx:Hp->Prop,(∀H',Nx H'->∃m',m'<m/\W (i+1) m' H')/\∀x H',J.yld i H x H'->g x (zdh σ vs) H' λσ2 H2=>zdh σ2 vs=zdh σ vs/\tt σ2 H2 λb H3=>
  if b=true then te σ2 H3 λy H4=>∃acc,H4 D=some (.lst acc)/\acc.length<sizeLine/\Nx (upd H4 D (.lst (acc++[y]))) else Nx H3)
theorem zyf{pins:List (Addr×Obj)}{s:Shared}{σ:St}{H:Hp}{Q:VK}{elt tg iter:Expr}{ifs:List Expr}{scope:Scope}{own:List (Str×Nat)}{pos pos':Pos}{wi:TI}{g:TG}{tt:TT}{te:TE}{use:Option (Value->Sem Unit)}{Qf:Value->Shared->Prop}(hc:X.calm=true)(hN:X.N.Nodup)(I:Inv X pins σ H s)(hi:PI X tg iter wi)(ok:zsr X.N X.env.scope scope own)(hg:∀(s:Shared) (H:Hp) (C:Addr) (cl:List (Str×Addr)) (fp:List Addr),PG (X.blk s H scope (compEnvC scope cl C X.env) fp) tg g)(ht:∀(s:Shared) (H:Hp) (C:Addr) (cl:List (Str×Addr)) (fp:List Addr),PTs (X.blk s H scope (compEnvC scope cl C X.env) fp) ifs tt)(he:∀(s:Shared) (H:Hp) (C:Addr) (cl:List (Str×Addr)) (fp:List Addr),PE (X.blk s H scope (compEnvC scope cl C X.env) fp) elt te)(hs:∀x,foldedSetIterable iter X.env x=pure x)(h:tLc wi g tt te (own.map (·.2)) σ H Q)(hRR:∀D C s' m H',Inv X pins σ H' s'->Q (.ref D) H'->s'.heap.Ns C m->zon X pins H' C->compPost (model X.prog X.w) X.A X.xe use Qf (.ref D) C (.ok .next) s') :
  wpAny (model X.prog X.w) X.A (comprehension (.ListComp elt [⟨tg,iter,ifs,0⟩] scope pos) scope X.env pos' (newList []) false (eval iter X.env) use) Qf X.xe s:=by
 have hfree:∀y∈scope.names,y.2=.free->∃c,X.env.cells.lookup y.1=some c:=λy hy e=>by
  rcases ok.free y hy e with k|k
  ·exact I.ok.has _ (.inl k)
  ·exact I.ok.has _ (.inr k)
 refine wpAny_comprehension_free (use:=use) rfl hs (ziu hfree) ok.kind (λy hy e=>by rw[ok.uniq y hy,e])
  (thn (hi pins s σ H _ I h) λxv s1 hx=>thn hx λitv s2 h2=>?_)
 obtain⟨it,fp,tn,J,H2,e,I2,T,st2,f2,q⟩:=h2
 subst e
 refine wpAny_newObj_type (zkz ?_) (by show 0<=sizeLine;decide)
 generalize hD:s2.heap.objs.size=D
 have hDn:H2 D=none:=I2.hok.fresh (qh2 hD)
 obtain⟨W,⟨m0,w0⟩,turn⟩:=q D hDn
 generalize hs3:({ s2 with heap:=s2.heap.push { cls:=.type "list",data:=.seq ([]:List Value).toArray } }:Shared)=s3
 have I3:Inv X pins σ (upd H2 D (.lst [])) s3:=by
  rw[<-hs3]
  refine I2.laid (t':=s2.toks) (λb o e=>Heap.get?_push_of_some _ e) (qh2 hD) ⟨qg2 _,[],0,.nil,?_⟩
  rw[<-hD]
  exact Heap.get?_push_size _ rfl
 have h3:s3.heap=s2.heap.push { cls:=.type "list",data:=.seq ([]:List Value).toArray }:=by rw[<-hs3]
 have sz:∀b∈fp,b<s2.heap.objs.size:=λb hb=>by
  obtain⟨o,e,_⟩:=T.obj _ _ st2 b hb
  exact Heap.lt_size e
 have f3:∀b∈fp,zon X pins (upd H2 D (.lst [])) b/\b<s3.heap.objs.size:=λb hb=>by
  have hlt:=sz b hb
  refine⟨⟨?_,(f2 b hb).2⟩,by rw[h3,Heap.size_push];exact qix hlt⟩
  rw[zai (by rw[<-hD];exact qf6 hlt)]
  exact (f2 b hb).1
 have st3:tn 0 s3.heap:=T.keep _ _ _ st2 λb _ o e=>by rw[h3];exact Heap.get?_push_of_some _ e
 have I4:=zlo I3 ok hN f3
 have pg:=hg s3 (upd H2 D (.lst [])) s3.heap.objs.size (cellsFrom (s3.heap.objs.size+1) scope.names (za2 X.env.cells scope.names [])) fp
 have pt:=ht s3 (upd H2 D (.lst [])) s3.heap.objs.size (cellsFrom (s3.heap.objs.size+1) scope.names (za2 X.env.cells scope.names [])) fp
 have pe:=he s3 (upd H2 D (.lst [])) s3.heap.objs.size (cellsFrom (s3.heap.objs.size+1) scope.names (za2 X.env.cells scope.names [])) fp
 show codeAny _ _ (.compStart (.ListComp elt [⟨tg,iter,ifs,0⟩] scope pos) 0 (.ref it) (.ref D) (compEnvC scope (cellsFrom (s3.heap.objs.size+1) scope.names (za2 X.env.cells scope.names [])) s3.heap.objs.size X.env)) (compPost (model X.prog X.w) X.A X.xe use Qf (.ref D) s3.heap.objs.size) { s3 with heap:=pushCells (s3.heap.push { cls:=.type "dict",data:=.dict #[] }) scope.names }
 have nfp:∀b∈fp,(upd H2 D (.lst [])) b=none:=λb hb=>(f3 b hb).1.1
 generalize hce:compEnvC scope (cellsFrom (s3.heap.objs.size+1) scope.names (za2 X.env.cells scope.names [])) s3.heap.objs.size X.env=ce at I4 pg pt pe ⊢
 have cL:ce.locals=s3.heap.objs.size:=by subst hce;rfl
 generalize hH3:upd H2 D (.lst [])=H3 at I3 I4 pg pt pe w0 nfp f3
 generalize hs4:({ s3 with heap:=pushCells (s3.heap.push { cls:=.type "dict",data:=.dict #[] }) scope.names }:Shared)=s4 at I4 ⊢
 have st4:tn 0 s4.heap:=T.keep _ _ _ st3 λb _ o e=>by rw[<-hs4];exact pushCells_keeps _ _ _ _ (Heap.get?_push_of_some _ e)
 have stat:∀{σ':St}{H':Hp}{s':Shared},Inv (X.blk s3 H3 scope ce fp) [] σ' H' s'->(∀b∈fp,H' b=none)->∀b∈fp,zon (X.blk s3 H3 scope ce fp) [] H' b:=λ{σ' H' s'} I' hn b hb=>
  ⟨hn b hb,(I'.ok.exf b hb).1,I'.ok.exfs b hb,.inl hb,λx c e=>(I'.ok.exf b hb).2 x c e,λp hp=>absurd (show p∈([]:List (Addr×Obj))++[] from hp) (by simp)⟩
 have loop:codeAny (model X.prog X.w) X.A (.compLoop (.ListComp elt [⟨tg,iter,ifs,0⟩] scope pos) 0 (.ref it) (.ref D) ce) (compPost (model X.prog X.w) X.A X.xe use Qf (.ref D) s3.heap.objs.size) s4:=by
  refine zjh (λn s'=>∃i H',Inv (X.blk s3 H3 scope ce fp) [] (zdh σ (own.map (·.2))) H' s'/\tn i s'.heap/\(∀b∈fp,H' b=none)/\W i n H') ?_ m0 ⟨0,H3,I4,st4,nfp,w0⟩
  rintro n s5 ⟨i,H5,I5,st5,n5,w5⟩
  rcases turn i n H5 w5 with ⟨stop,qq⟩|⟨go,Nx,hNx,step⟩
  ·have td:=T.done (X.blk s3 H3 scope ce fp) rfl rfl rfl hc i [] s5 _ H5 (λ_ _=>False) I5 (stat I5 n5) st5 stop
   refine zwf td λr s6 ⟨hr,I6⟩=>?_
   subst hr
   have I7:Inv X pins σ H5 s6:=I3.call' (ch:=fp) I6.os I6.base I6.hok I6.bare λb hb=>⟨(f3 b hb).1.2.2.2.1,(f3 b hb).1.2.1,(f3 b hb).1.2.2.2.2.1,(f3 b hb).1.2.2.2.2.2⟩
   have nC:H5 s3.heap.objs.size=none:=by
    have z:H5 ce.locals=none:=I6.free
    rw[cL]at z
    exact z
   obtain⟨m,hn,_⟩:=I6.loc
   have hn:s6.heap.Ns ce.locals m:=hn
   rw[cL]at hn
   exact hRR D s3.heap.objs.size s6 m H5 I7 qq hn (I3.fpOk (qfh _) nC)
  ·have ti:=T.item (X.blk s3 H3 scope ce fp) rfl rfl rfl hc i [] s5 _ H5 (λ_ _=>False) I5 (stat I5 n5) st5 go
   refine zwf ti λr s6 ⟨u,hr,h6⟩=>?_
   subst hr
   refine zwf h6 λ_ s7 ⟨x,H7,I7,r7,y7,st7,n7⟩=>?_
   have I7':=I7.pinned (stat I7 n7) (T.obj _ _ st7)
   refine zwf (pg _ s7 _ H7 x u _ I7' r7 (step x H7 y7)) λ_ s8 ⟨σ8,H8,I8,hw8,q8⟩=>?_
   refine zwf (pt _ s8 σ8 H8 _ I8 q8) λb s9 ⟨H9,I9,q9⟩=>?_
   have fin:∀{s':Shared}{H':Hp},Inv (X.blk s3 H3 scope ce fp) ([]++zm2 fp s7.heap) σ8 H' s'->Nx H'->∃m,m<n/\∃i H',Inv (X.blk s3 H3 scope ce fp) [] (zdh σ (own.map (·.2))) H' s'/\tn i s'.heap/\(∀b∈fp,H' b=none)/\W i m H':=λ{s' H'} I' nx=>by
    obtain⟨m',hm,w'⟩:=hNx H' nx
    have pin':∀b∈fp,∀o,s7.heap.get? b=some o->s'.heap.get? b=some o/\H' b=none:=λb hb o e=>
     let z:=I'.pin (b,o) (qgf _ (qgf _ (zf5 hb e)))
     ⟨z.1,z.2.1⟩
    have hl:(zdh σ (own.map (·.2))).length=σ8.length:=by rw[<-hw8,zes]
    refine⟨m',hm,i+1,H',(I'.unpinned (pins:=[])).weak hl (λj v e=>?_),T.keep _ _ _ st7 λb hb o e=>(pin' b hb o e).1,λb hb=>?_,w'⟩
    ·rw[<-hw8]at e
     exact (zhd e).1
    ·obtain⟨o,e,_⟩:=T.obj _ _ st7 b hb
     exact (pin' b hb o e).2
   cases b with
   |false=>
    simp only[qfz,if_false]at q9 ⊢
    exact fin I9 q9
   |true=>
    simp only[if_true]at q9 ⊢
    refine zwf (pe _ s9 σ8 H9 _ I9 q9) λz s10 ⟨yv,H10,I10,r10,acc,hD10,hz10,nx⟩=>?_
    exact qcn (X:=X.blk s3 H3 scope ce fp) I10 hD10 hz10 r10 λs11 I11=>fin I11 nx
 exact codeAny_compStart_list loop (T.self X.A 0 _ _ _ st4 loop)
theorem zl6{elt tg iter:Expr}{ifs:List Expr}{scope:Scope}{own:List (Str×Nat)}{pos:Pos}{wi:TI}{g:TG}{tt:TT}{te:TE}(hc:X.calm=true)(hN:X.N.Nodup)(hi:PI X tg iter wi)(ok:zsr X.N X.env.scope scope own)(hg:∀(s:Shared) (H:Hp) (C:Addr) (cl:List (Str×Addr)) (fp:List Addr),PG (X.blk s H scope (compEnvC scope cl C X.env) fp) tg g)(ht:∀(s:Shared) (H:Hp) (C:Addr) (cl:List (Str×Addr)) (fp:List Addr),PTs (X.blk s H scope (compEnvC scope cl C X.env) fp) ifs tt)(he:∀(s:Shared) (H:Hp) (C:Addr) (cl:List (Str×Addr)) (fp:List Addr),PE (X.blk s H scope (compEnvC scope cl C X.env) fp) elt te)(hs:∀x,foldedSetIterable iter X.env x=pure x:=by intro _;rfl) :
  PE X (.ListComp elt [⟨tg,iter,ifs,0⟩] scope pos) (tLc wi g tt te (own.map (·.2))):=by
 intro pins s σ H Q I h
 rw[eval_ListComp]
 refine zyf hc hN I hi ok hg ht he hs h λD C s' m H' I' q hn f=>⟨m,hn,λh'' sb=>?_⟩
 obtain⟨f0,f1,f2,f3,f4,f5⟩:=f
 exact⟨.ref D,H',I'.turned (t':=s'.toks) (λb o hb e=>(sb.2 b hb).trans e) f0 f1 f3 f4 f5,rfl,q⟩
theorem znq{i:Nat}{y:Str}{py:Pos}{elt tg iter:Expr}{ifs:List Expr}{scope:Scope}{own:List (Str×Nat)}{pos spos:Pos}{wi:TI}{g:TG}{tt:TT}{te:TE}(hc:X.calm=true)(hN:X.N.Nodup)(hy:X.N[i]?=some y)(hyl:X.env.scope.names.lookup y=some .local)(hsw:swapsWith (.ListComp elt [⟨tg,iter,ifs,0⟩] scope pos) (some (.Name y py)) spos.line X.env=pure true)(hi:PI X tg iter wi)(ok:zsr X.N X.env.scope scope own)(hg:∀(s:Shared) (H:Hp) (C:Addr) (cl:List (Str×Addr)) (fp:List Addr),PG (X.blk s H scope (compEnvC scope cl C X.env) fp) tg g)(ht:∀(s:Shared) (H:Hp) (C:Addr) (cl:List (Str×Addr)) (fp:List Addr),PTs (X.blk s H scope (compEnvC scope cl C X.env) fp) ifs tt)(he:∀(s:Shared) (H:Hp) (C:Addr) (cl:List (Str×Addr)) (fp:List Addr),PE (X.blk s H scope (compEnvC scope cl C X.env) fp) elt te)(hs:∀x,foldedSetIterable iter X.env x=pure x:=by intro _;rfl) :
  PS X (.Assign [.Name y py] (.ListComp elt [⟨tg,iter,ifs,0⟩] scope pos) spos) (tAsg (tLc wi g tt te (own.map (·.2))) (zjm i)):=by
 intro pins s σ H D I h
 rw[exec_Assign_Name_used _ _ _ _ hsw]
 refine wpAny_bind (wpAny_standAt (wpAny_bind ?_))
 show wpAny _ X.A (do let _ <-comprehension (.ListComp elt [⟨tg,iter,ifs,0⟩] scope pos) scope X.env (firstIterPos [⟨tg,iter,ifs,0⟩] pos) (newList []) false (eval iter X.env) (some (assign (.Name y py) X.env))) _ _ s
 have h:tLc wi g tt te (own.map (·.2)) σ H (λx H1=>zjm i x σ H1 D.nx):=h
 refine wpAny_bind (thn (zyf (Qf:=λ_ s'=>SP X pins D .next s') hc hN I hi ok hg ht he hs h λL C s' m H' I' q hn f=>?_) λ_ s' hq=>wpAny_pure (wpAny_pure hq))
 show wpAny _ _ (assign (.Name y py) X.env (.ref L)) _ _ _
 refine wpAny_assign_Name (zka (v:=V.ref L) I' hN hy (.inl hyl) rfl (λs2 I2 ⟨a,sb,ha⟩=>?_) (.inr hyl))
 obtain⟨f0,f1,f2,f3,f4,f5⟩:=f
 have haC:C≠a:=by
  rcases ha with z|z
  ·rw[z];exact f1
  ·exact λe=>f4 y a z e.symm
 refine⟨m,hn.sameBut sb haC,λh3 sb3=>?_⟩
 exact⟨_,H',I2.turned (t':=s2.toks) (λb o hb e=>(sb3.2 b hb).trans e) f0 f1 f3 f4 f5,q⟩
end
theorem ztt{lo:Int}{n:Nat}{g:TG}{tt:TT}{te:TE}{vs:List Nat}{σ:St}{H1:Hp}{D:Addr}{Qd:Hp->Prop}(Pv:Nat->Hp->Prop)(h0:Pv 0 (upd H1 D (.lst [])))(hs:∀i H,i<n->Pv i H->g (.int (lo+i)) (zdh σ vs) H λσ2 H2=>zdh σ2 vs=zdh σ vs/\tt σ2 H2 λb H3=>
   if b=true then te σ2 H3 λy H4=>∃acc,H4 D=some (.lst acc)/\acc.length<sizeLine/\Pv (i+1) (upd H4 D (.lst (acc++[y]))) else Pv (i+1) H3)(hd:∀H,Pv n H->Qd H) :
  ∃W:Nat->Nat->Hp->Prop,(∃m,W 0 m (upd H1 D (.lst [])))/\∀i m H,W i m H ->
   ((Itr lo n).stop i H/\Qd H)\/((Itr lo n).go i H/\∃Nx:Hp->Prop,(∀H',Nx H'->∃m',m'<m/\W (i+1) m' H')/\∀x H',(Itr lo n).yld i H x H'->g x (zdh σ vs) H' λσ2 H2=>zdh σ2 vs=zdh σ vs/\tt σ2 H2 λb H3=>
    if b=true then te σ2 H3 λy H4=>∃acc,H4 D=some (.lst acc)/\acc.length<sizeLine/\Nx (upd H4 D (.lst (acc++[y]))) else Nx H3):=by
 refine⟨λi m H=>m=n - i/\i<=n/\Pv i H,⟨n,by simp,qg2 _,h0⟩,?_⟩
 rintro i m H ⟨rfl,hi,p⟩
 by_cases hlt:i<n
 ·refine .inr ⟨hlt,Pv (i+1),λH' p'=>⟨n - (i+1),by lia,rfl,hlt,p'⟩,λx H' y=>?_⟩
  obtain⟨e,y⟩:=y
  subst e y
  exact hs i _ hlt p
 ·have e:i=n:=by lia
  subst e
  exact .inl ⟨qfh _,hd H p⟩
theorem zfq{K:qfa}{a:Addr}{xs:List V}{g:TG}{tt:TT}{te:TE}{vs:List Nat}{σ:St}{H1:Hp}{D:Addr}{Qd:Hp->Prop}(Pv:Nat->Hp->Prop)(h0:Pv 0 (upd H1 D (.lst [])))(hl:∀i H,i<=xs.length->Pv i H->SqL K H a xs)(hs:∀i x H,xs[i]?=some x->Pv i H->g x (zdh σ vs) H λσ2 H2=>zdh σ2 vs=zdh σ vs/\tt σ2 H2 λb H3=>
   if b=true then te σ2 H3 λy H4=>∃acc,H4 D=some (.lst acc)/\acc.length<sizeLine/\Pv (i+1) (upd H4 D (.lst (acc++[y]))) else Pv (i+1) H3)(hd:∀H,Pv xs.length H->Qd H) :
  ∃W:Nat->Nat->Hp->Prop,(∃m,W 0 m (upd H1 D (.lst [])))/\∀i m H,W i m H ->
   ((Itl K a).stop i H/\Qd H)\/((Itl K a).go i H/\∃Nx:Hp->Prop,(∀H',Nx H'->∃m',m'<m/\W (i+1) m' H')/\∀x H',(Itl K a).yld i H x H'->g x (zdh σ vs) H' λσ2 H2=>zdh σ2 vs=zdh σ vs/\tt σ2 H2 λb H3=>
    if b=true then te σ2 H3 λy H4=>∃acc,H4 D=some (.lst acc)/\acc.length<sizeLine/\Nx (upd H4 D (.lst (acc++[y]))) else Nx H3):=by
 refine⟨λi m H=>m=xs.length - i/\i<=xs.length/\Pv i H,⟨xs.length,by simp,qg2 _,h0⟩,?_⟩
 rintro i m H ⟨rfl,hi,p⟩
 have q:=hl i H hi p
 by_cases hlt:i<xs.length
 ·refine .inr ⟨⟨xs,xs[i],q,by simp[hlt]⟩,Pv (i+1),λH' p'=>⟨xs.length - (i+1),by lia,rfl,hlt,p'⟩,λx H' y=>?_⟩
  obtain⟨e,y⟩:=y
  subst e
  exact hs i x _ (y xs q) p
 ·have e:i=xs.length:=by lia
  subst e
  exact .inl ⟨⟨xs,q,qfh _⟩,hd H p⟩
def blkC(N:List Str)(sc scope:Scope)(own:List (Str×Nat)):Bool:=
 (match scope.kind with|.function=>true|_=>false) && (scope.names.all λy=>decide (scope.names.lookup y.1=some y.2)) && (own.all λp=>decide (N[p.2]?=some p.1)) &&
  (scope.names.all λy=>match y.2 with
   |.free=>(match sc.names.lookup y.1 with|some .cell=>true|some .free=>true|_=>false)
   |.local=>decide (y.1∈own.map (·.1)) || decide (y.1 ∉ N)
   |.cell=>decide (y.1∈own.map (·.1)) || decide (y.1 ∉ N)
   |_=>true)
theorem zbs{N:List Str}{sc scope:Scope}{own:List (Str×Nat)}(h:blkC N sc scope own=true):zsr N sc scope own:=by
 unfold blkC at h
 simp only[qft,qfm,decide_eq_true_eq]at h
 obtain⟨⟨⟨h1,h2⟩,h3⟩,h4⟩:=h
 refine⟨?_,h2,h3,λy hy e=>?_,λy hy e=>?_⟩
 ·split at h1
  ·assumption
  ·cases h1
 ·have q:=h4 y hy
  simp only[e]at q
  split at q <;> first|exact .inl (by assumption)|exact .inr (by assumption)|cases q
 ·have q:=h4 y hy
  rcases e with e|e <;> (simp only[e,Bool.or_eq_true,decide_eq_true_eq]at q;exact q)
section
variable{κ:Type}[DecidableEq κ]
def ze8(kvs:List (κ×V))(k:κ):Option V:=(kvs.find? λkv=>decide (kv.1=k)).map (·.2)
def zid(kvs:List (κ×V))(k:κ)(v:V):List (κ×V):=
 if (kvs.any λkv=>decide (kv.1=k))=true then kvs.map (λkv=>if kv.1=k then (kv.1,v) else kv) else kvs++[(k,v)]
theorem zci{p:κ×V}{r:List (κ×V)}{k:κ}(e:p.1=k):ze8 (p::r) k=some p.2:=by simp[ze8,qgs,e]
theorem zcj{p:κ×V}{r:List (κ×V)}{k:κ}(e:¬p.1=k):ze8 (p::r) k=ze8 r k:=by simp[ze8,qgs,e]
theorem zhf(k:κ):∀kvs:List (κ×V),(kvs.any λkv=>decide (kv.1=k))=(ze8 kvs k).isSome
 |[]=>rfl
 |p::r=>by
  rw[qhz]
  by_cases e:p.1=k
  ·simp only[zci e,decide_eq_true e,Bool.true_or,Option.isSome_some]
  ·rw[zcj e,decide_eq_false e,qkn];exact zhf k r
theorem zst(k j:κ)(y:V):∀kvs:List (κ×V),ze8 (kvs.map λkv=>if kv.1=k then (kv.1,y) else kv) j=(ze8 kvs j).map λx=>if j=k then y else x
 |[]=>rfl
 |p::r=>by
  have ih:=zst k j y r
  rw[qge]
  by_cases h:p.1=k
  ·rw[if_pos h]
   by_cases e:p.1=j
   ·rw[zci (p:=(p.1,y)) e,zci e,qfy,if_pos (e.symm.trans h)]
   ·rw[zcj (p:=(p.1,y)) e,zcj e,ih]
  ·rw[if_neg h]
   by_cases e:p.1=j
   ·rw[zci (p:=p) e,zci e,qfy,if_neg (λz=>h (e.trans z))]
   ·rw[zcj (p:=p) e,zcj e,ih]
theorem zos(k j:κ)(y:V):∀kvs:List (κ×V),ze8 kvs k=none->ze8 (kvs++[(k,y)]) j=if j=k then some y else ze8 kvs j
 |[],_=>by
  by_cases e:k=j
  ·rw[if_pos e.symm];exact zci (p:=(k,y)) e
  ·rw[if_neg (λz=>e z.symm)];exact zcj (p:=(k,y)) e
 |p::r,hn=>by
  rw[qgx]
  have hk:¬p.1=k:=λz=>by rw[zci z]at hn;cases hn
  rw[zcj hk]at hn
  have ih:=zos k j y r hn
  by_cases e:p.1=j
  ·rw[zci e,zci e,if_neg (λz=>hk (e.trans z))]
  ·rw[zcj e,zcj e,ih]
theorem zhe(kvs:List (κ×V))(k j:κ)(y:V):ze8 (zid kvs k y) j=if j=k then some y else ze8 kvs j:=by
 unfold zid
 by_cases a:(kvs.any λkv=>decide (kv.1=k))=true
 ·rw[if_pos a,zst]
  rw[zhf]at a
  by_cases e:j=k
  ·obtain⟨x,hx⟩:=qjp.mp a
   rw[if_pos e,e,hx,qfy,if_pos rfl]
  ·rw[if_neg e]
   cases ze8 kvs j with
   |none=>rfl
   |some x=>rw[qfy,if_neg e]
 ·rw[if_neg a]
  refine zos k j y kvs ?_
  rw[zhf]at a
  cases q:ze8 kvs k with
  |none=>rfl
  |some x=>rw[q]at a;exact (a rfl).elim
theorem zg1(kvs:List (κ×V))(k:κ)(v:V):(zid kvs k v).length<=kvs.length+1:=by
 unfold zid
 split
 ·rw[qe9];lia
 ·rw[qfb,qfd,qf5];lia
theorem zjt{kvs:List (κ×V)}{k:κ}(v:V)(h:ze8 kvs k=none):zid kvs k v=kvs++[(k,v)]:=by
 unfold zid
 rw[zhf,h]
 exact if_neg (by decide)
theorem RelO.isSome_eq{o:Option V}{u:Option Value}(r:RelO o u):o.isSome=u.isSome:=by
 cases o with
 |none=>cases u with
  |none=>rfl
  |some _=>exact (show False from r).elim
 |some _=>cases u with
  |none=>exact (show False from r).elim
  |some _=>rfl
theorem RelO.getD{o:Option V}{u:Option Value}{d:V}{d':Value}(r:RelO o u)(rd:RelV d d'):RelV (o.getD d) (u.getD d'):=by
 cases o with
 |none=>cases u with
  |none=>exact rd
  |some _=>exact (show False from r).elim
 |some _=>cases u with
  |none=>exact (show False from r).elim
  |some _=>exact r
theorem KV.val{kvs:List (κ×V)}{vs:List (κ×Value)}(r:KV kvs vs)(k:κ):RelO (ze8 kvs k) (valueAt vs k):=by
 unfold KV at r
 induction r with
 |nil=>exact True.intro
 | @cons p q ps qs h t ih=>
  obtain⟨h1,h2⟩:=h
  by_cases e:p.1=k
  ·have e':q.1=k:=h1.symm.trans e
   have b:valueAt (q::qs) k=some q.2:=by simp[valueAt,qgs,e']
   rw[zci e,b];exact h2
  ·have e':¬q.1=k:=λz=>e (h1.trans z)
   have b:valueAt (q::qs) k=valueAt qs k:=by simp[valueAt,qgs,e']
   rw[zcj e,b];exact ih
theorem KV.any{kvs:List (κ×V)}{vs:List (κ×Value)}(r:KV kvs vs)(k:κ):(kvs.any λkv=>decide (kv.1=k))=vs.any λkv=>decide (kv.1=k):=by
 unfold KV at r
 induction r with
 |nil=>rfl
 |cons h t ih=>rw[qhz,qhz,ih,h.1]
theorem KV.repl{kvs:List (κ×V)}{vs:List (κ×Value)}(r:KV kvs vs)(k:κ){y:V}{u:Value}(ry:RelV y u) :
  KV (kvs.map λkv=>if kv.1=k then (kv.1,y) else kv) (vs.map λkv=>if kv.1=k then (kv.1,u) else kv):=by
 unfold KV at r ⊢
 induction r with
 |nil=>exact .nil
 | @cons p q ps qs h t ih=>
  rw[qge,qge]
  refine .cons ?_ ih
  obtain⟨h1,h2⟩:=h
  by_cases e:p.1=k
  ·rw[if_pos e,if_pos (h1.symm.trans e)];exact⟨h1,ry⟩
  ·rw[if_neg e,if_neg (λz=>e (h1.trans z))];exact⟨h1,h2⟩
theorem KV.put{kvs:List (κ×V)}{vs:List (κ×Value)}(r:KV kvs vs)(k:κ){y:V}{u:Value}(ry:RelV y u):KV (zid kvs k y) (stored vs k u):=by
 unfold zid stored
 rw[r.any k]
 by_cases e:(vs.any λkv=>decide (kv.1=k))=true
 ·rw[if_pos e,if_pos e];exact r.repl k ry
 ·rw[if_neg e,if_neg e];exact Paired.snoc r ⟨rfl,ry⟩
theorem KV.length{kvs:List (κ×V)}{vs:List (κ×Value)}(r:KV kvs vs):kvs.length=vs.length:=Paired.length r
end
theorem zvb{P:Program}{w:World}{k:Key}{u:Value}(r:RelV (kV k) u):(zbh P w).is k u=true:=by
 cases k with
 |inl i=>obtain⟨t,e⟩:=(show ∃t,u=Value.int i t from r);subst e;exact zrv P w i t
 |inr x=>obtain⟨t,e⟩:=(show ∃t,u=Value.str x t from r);subst e;exact zru P w x t
theorem zpw{P:Program}{w:World}:∀{ks:List Key}{us:List Value},Vals (ks.map kV) us->ItemsAre (zbh P w) ks us
 |[],_,r=>by rw[qio]at r;cases r;exact .nil
 |k::ks,_,r=>by
  rw[qge]at r
  cases r with
  |cons h t=>exact .cons (zvb h) (zpw t)
abbrev KT(H:Hp):List (List Key×V)->List (List Key×Addr×Value)->Prop:=Paired λp q=>p.1=q.1/\H q.2.1=some (.tup (p.1.map kV))/\RelV p.2 q.2.2
theorem KT.val{H:Hp}{kvs:List (List Key×V)}{xs:List (List Key×Addr×Value)}(r:KT H kvs xs)(k:List Key):RelO (ze8 kvs k) ((atKey xs k).map (·.2)):=by
 induction r with
 |nil=>exact True.intro
 | @cons p q ps qs h t ih=>
  obtain⟨h1,_,h2⟩:=h
  by_cases e:p.1=k
  ·have e':q.1=k:=h1.symm.trans e
   have b:atKey (q::qs) k=some q.2:=by simp[atKey,qgs,e']
   rw[zci e,b];exact h2
  ·have e':¬q.1=k:=λz=>e (h1.trans z)
   have b:atKey (q::qs) k=atKey qs k:=by simp[atKey,qgs,e']
   rw[zcj e,b];exact ih
theorem KT.repl{H:Hp}{kvs:List (List Key×V)}{xs:List (List Key×Addr×Value)}(r:KT H kvs xs)(k:List Key){y:V}{u:Value}(ry:RelV y u) :
  KT H (kvs.map λkv=>if kv.1=k then (kv.1,y) else kv) (xs.map (putAt k u)):=by
 induction r with
 |nil=>exact .nil
 | @cons p q ps qs h t ih=>
  rw[qge,qge]
  refine .cons ?_ ih
  obtain⟨h1,h2,h3⟩:=h
  unfold putAt
  by_cases e:p.1=k
  ·rw[if_pos e,if_pos (h1.symm.trans e)];exact⟨h1,h2,ry⟩
  ·rw[if_neg e,if_neg (λz=>e (h1.trans z))];exact⟨h1,h2,h3⟩
theorem KT.put{H:Hp}{kvs:List (List Key×V)}{xs:List (List Key×Addr×Value)}(r:KT H kvs xs)(k:List Key){b:Addr}{y:V}{u:Value}(hb:H b=some (.tup (k.map kV)))(ry:RelV y u) :
  KT H (zid kvs k y) (storedH xs k b u):=by
 have e:(kvs.any λkv=>decide (kv.1=k))=(atKey xs k).isSome:=by
  rw[zhf,(r.val k).isSome_eq,Option.isSome_map]
 unfold zid storedH
 rw[e]
 by_cases q:(atKey xs k).isSome=true
 ·rw[if_pos q,if_pos q];exact r.repl k ry
 ·rw[if_neg q,if_neg q];exact Paired.snoc r ⟨rfl,hb,ry⟩
theorem KT.keeps{H H':Hp}{kvs:List (List Key×V)}{xs:List (List Key×Addr×Value)}(r:KT H kvs xs)(ht:∀b ys,H b=some (.tup ys)->H' b=some (.tup ys)):KT H' kvs xs:=
 Paired.mapP r λ_ _ z=>⟨z.1,ht _ _ z.2.1,z.2.2⟩
section
variable{P:Program}{w:World}{H:Hp}{h:Heap}{a:Addr}
theorem rd_of{u:HO}(ok:HOk P w H h)(e:Rd H a u):ObjOk P w H h a u:=e.ok ok
theorem zvl{kvs:List (Key×V)}(ok:HOk P w H h)(e:Rd H a (.dK kvs)):kvs.length<=sizeLine/\(a == sysModules)=false/\∃vs,KV kvs vs/\h.DictOf (zbh P w) a vs:=
 show ObjOk P w H h a (.dK kvs) from rd_of ok e
theorem dk_of{kvs:List (Key×V)}(ok:HOk P w H h)(e:H a=some (.dK kvs)):kvs.length<=sizeLine/\(a == sysModules)=false/\∃vs,KV kvs vs/\h.DictOf (zbh P w) a vs:=zvl ok (.inl e)
theorem zpu{ks:List Key}(ok:HOk P w H h)(e:H a=some (.tup (ks.map kV))):(tupleKind (zbh P w)).is h ks a:=by
 obtain⟨_,its,r,o,h1,h2,n,h3⟩:=(show ObjOk P w H h a (.tup (ks.map kV)) from ok a _ e)
 exact⟨o,its.toArray,n,h1,h2,h3,by simpa using zpw r⟩
theorem zvk{kvs:List (List Key×V)}(ok:HOk P w H h)(e:Rd H a (.dT kvs)):kvs.length<=sizeLine/\(a == sysModules)=false ∧
  ∃xs,KT H kvs xs/\h.DictOfH (tupleKind (zbh P w)) a xs:=by
 obtain⟨z,y,xs,r,o,es,ep,h1,h2,h3,h4,h5⟩:=(show ObjOk P w H h a (.dT kvs) from rd_of ok e)
 refine⟨z,y,xs,r,o,es,ep,h1,h2,h3,h4,λx hx=>?_,h5⟩
 have all:∀{l:List (List Key×V)}{m:List (List Key×Addr×Value)},KT H l m->∀x∈m,(tupleKind (zbh P w)).is h x.1 x.2.1:=by
  intro l m q
  induction q with
  |nil=>intro x hx;exact nomatch hx
  | @cons p q ps qs hq t ih=>
   intro x hx
   rcases qfo.mp hx with e|hx
   ·subst e
    exact zpu ok (by rw[<-hq.1];exact hq.2.1)
   ·exact ih x hx
 exact all r x hx
theorem dt_of{kvs:List (List Key×V)}(ok:HOk P w H h)(e:H a=some (.dT kvs)):kvs.length<=sizeLine/\(a == sysModules)=false ∧
  ∃xs,KT H kvs xs/\h.DictOfH (tupleKind (zbh P w)) a xs:=zvk ok (.inl e)
end
def DGet(H:Hp)(a:Addr)(y:V)(r:Option V):Prop:=
 (∃kvs k,Rd H a (.dK kvs)/\y=kV k/\r=ze8 kvs k)\/∃kvs k b,Rd H a (.dT kvs)/\y=.ref b/\H b=some (.tup (k.map kV))/\r=ze8 kvs k
def DPut(H:Hp)(a:Addr)(y v:V)(H':Hp):Prop:=
 (∃kvs k,H a=some (.dK kvs)/\y=kV k/\kvs.length<sizeLine/\H'=upd H a (.dK (zid kvs k v))) ∨
 ∃kvs k b,H a=some (.dT kvs)/\y=.ref b/\H b=some (.tup (k.map kV))/\kvs.length<sizeLine/\H'=upd H a (.dT (zid kvs k v))
theorem DGet.k{H:Hp}{a:Addr}{kvs:List (Key×V)}{k:Key}(e:H a=some (.dK kvs)):DGet H a (kV k) (ze8 kvs k):=.inl ⟨kvs,k,.inl e,rfl,rfl⟩
theorem DPut.k{H:Hp}{a:Addr}{kvs:List (Key×V)}{k:Key}{v:V}(e:H a=some (.dK kvs))(hl:kvs.length<sizeLine):DPut H a (kV k) v (upd H a (.dK (zid kvs k v))):=.inl ⟨kvs,k,e,rfl,hl,rfl⟩
section
variable{X:Cx}{pins:List (Addr×Obj)}{σ:St}{H:Hp}{s:Shared}{a:Addr}{y v:V}{u r:Value}{o:Option V}{A:Around}{E:Value->Shared->Prop}
theorem Inv.big(I:Inv X pins σ H s):sysModules<s.heap.objs.size:=by
 have h:mainGlobals<s.heap.objs.size:=(I.mod.glob.keeps I.bk).lt
 exact qkr (by decide) h
theorem zy7{Q:Value->Shared->Prop}(hu:A.units+1<cLine)(I:Inv X pins σ H s)(g:DGet H a y (some v))(ry:RelV y u)(h:∀w' s',Inv X pins σ H s'->RelV v w'->Q w' s') :
  wpAny (model X.prog X.w) A (getItem (.ref a) u) Q E s:=by
 rcases g with ⟨kvs,k,e,ey,l⟩|⟨kvs,k,b,e,ey,eb,l⟩
 ·subst ey
  obtain⟨z,hd,vs,rel,dd⟩:=zvl I.hok e
  obtain⟨w',hw,rw'⟩:=RelO.some_of (v:=v) (o:=valueAt vs k) (by rw[l];exact rel.val k)
  exact wpAny_getItem_of (zvb ry) dd.mapOf hw (h w' _ (I.tok _) rw')
 ·subst ey
  cases (show u=Value.ref b from ry)
  obtain⟨z,hd,xs,rel,dd⟩:=zvk I.hok e
  obtain⟨w',hw,rw'⟩:=RelO.some_of (v:=v) (o:=(atKey xs k).map (·.2)) (by rw[l];exact rel.val k)
  obtain⟨p,hp,hp2⟩:=qff.mp hw
  refine wpAny_getItem_heap (tupleKind_room_in1 hu) (zpu I.hok eb) dd hp ?_
  rw[hp2]
  exact h w' _ (I.tok _) rw'
theorem d_in{Q:Value->Shared->Prop}(hu:A.units+1<cLine)(I:Inv X pins σ H s)(g:DGet H a y o)(ry:RelV y u)(h:∀s',Inv X pins σ H s'->Q (.bool o.isSome) s') :
  wpAny (model X.prog X.w) A (compareOp .In u (.ref a)) Q E s:=by
 rcases g with ⟨kvs,k,e,ey,l⟩|⟨kvs,k,b,e,ey,eb,l⟩
 ·subst ey
  obtain⟨z,hd,vs,rel,dd⟩:=zvl I.hok e
  refine wpAny_in_of (zvb ry) hd dd.mapOf ?_
  rw[<-(rel.val k).isSome_eq,<-l]
  exact h _ (I.tok _)
 ·subst ey
  cases (show u=Value.ref b from ry)
  obtain⟨z,hd,xs,rel,dd⟩:=zvk I.hok e
  refine wpAny_in_heap (tupleKind_room_in1 hu) (zpu I.hok eb) hd dd ?_
  have q:=(rel.val k).isSome_eq
  rw[Option.isSome_map]at q
  rw[<-q,<-l]
  exact h _ (I.tok _)
theorem zy5{h':Heap}{t':Nat}{ob:HO}(I:Inv X pins σ H s)(mu:Mut (H a))(hs:Heap.SameBut a s.heap h')(he:∃q,h'.get? a=some q)(new:ObjOk X.prog X.w (upd H a ob) h' a ob) :
  Inv X pins σ (upd H a ob) { s with heap:=h',toks:=t' }:=
 I.write (x:=a) (e:=a) mu (.inl rfl) (λb q hb z=>(hs.2 b hb).trans z) he new
theorem dk_new{P:Program}{w:World}{H':Hp}{h':Heap}{kvs:List (Key×V)}{vs:List (Key×Value)}(z:kvs.length<=sizeLine)(hd:(a == sysModules)=false)(rel:KV kvs vs)(dd:h'.DictOf (zbh P w) a vs) :
  ObjOk P w H' h' a (.dK kvs):=⟨z,hd,vs,rel,dd⟩
theorem zy6{H':Hp}{Q:Unit->Shared->Prop}(hu:A.units+1<cLine)(I:Inv X pins σ H s)(g:DPut H a y v H')(ry:RelV y u)(rv:RelV v r)(h:∀s',Inv X pins σ H' s'->Q () s') :
  wpAny (model X.prog X.w) A (setItem (.ref a) u r) Q E s:=by
 rcases g with ⟨kvs,k,e,ey,l,eH⟩|⟨kvs,k,b,e,ey,eb,l,eH⟩
 ·subst ey eH
  obtain⟨z,hd,vs,rel,dd⟩:=dk_of I.hok e
  have hz:vs.length<=sizeLine:=by rw[<-rel.length];exact z
  have hl:(zid kvs k v).length<=sizeLine:=by have:=zg1 kvs k v;lia
  refine wpAny_setItem_pairs (hsz:=hz) (zvb ry) dd λh' dd' hs=>h _ ?_
  have he:∃q,h'.get? a=some q:=let ⟨q,_,_,hq,_⟩:=dd';⟨q,hq⟩
  exact zy5 I (by rw[e];exact True.intro) hs he (dk_new hl hd (rel.put k rv) dd')
 ·subst ey eH
  cases (show u=Value.ref b from ry)
  obtain⟨z,hd,xs,rel,dd⟩:=dt_of I.hok e
  have hz:xs.length<=sizeLine:=by rw[<-Paired.length rel];exact z
  have hl:(zid kvs k v).length<=sizeLine:=by have:=zg1 kvs k v;lia
  refine wpAny_setItem_heap (hsz:=hz) (tupleKind_room_in1 hu) (zpu I.hok eb) dd λh' dd' hs=>h _ ?_
  obtain⟨q,es,ep,hq,h2,h3,h4,_,h5⟩:=dd'
  refine zy5 I (by rw[e];exact True.intro) hs ⟨q,hq⟩ ⟨hl,hd,_,(rel.put k eb rv).keeps λc ys ec=>?_,q,es,ep,hq,h2,h3,h4,h5⟩
  rw[zai (zf9 ec e (λz=>nomatch z))]
  exact ec
end
def NoSl(i:Expr):Prop:=∀ov iv,subscripted i false ov iv=operate [ov,iv] (getItem ov iv)
theorem qc0{prog:Program}{w:World}{A:Around}{E:Value->Shared->Prop}{s:Shared}{env:Env}{value slice:Expr}{pos:Pos}{T id:String}{Q:Value->Shared->Prop}(hl:typeLookup (.type T) "__getitem__"=pure (some (.builtin id)))(hs:NoSl slice)(h:wpAny (model prog w) A (eval value env) (λo s₁=>wpAny (model prog w) A (eval slice env) (λi s₂=>s₂.TypeIs o T/\wpAny (model prog w) A (getItem o i) Q E s₂) E s₁) E s) :
  wpAny (model prog w) A (eval (.Subscript value slice pos) env) Q E s:=by
 refine Subscript_ (wpAny_mono h (λo s₁ h₁=>wpAny_mono h₁ (λi s₂ h₂=>?_) λ_ _ x=>x) λ_ _ x=>x)
 obtain⟨hT,h₂⟩:=h₂
 unfold subscriptTail
 refine wpAny_bind ?_
 rw[getitemInPython_of_ne hT.not_modules]
 refine wpAny_bind (wpAny_specialOf hT hl ?_)
 have fin:wpAny (model prog w) A (subscripted slice false o i) (λr s₃=>wpAny (model prog w) A (letTemporaryGo value o r >>= λ_=>pure r) Q E s₃) E s₂:=by
  rw[hs o i]
  exact wpAny_operating (wpAny_mono h₂ (λr s₃ h₃=>wpAny_bind (wpAny_letTemporaryGo (wpAny_pure h₃))) λ_ _ x=>x)
 first
  |exact wpAny_pure (wpAny_bind fin)
  |exact wpAny_bind (wpAny_pure (wpAny_bind fin))
  |exact wpAny_bind fin
theorem zr5{X:Cx}{pins:List (Addr×Obj)}{σ:St}{H:Hp}{s:Shared}{a:Addr}{y:V}{o:Option V}(I:Inv X pins σ H s)(g:DGet H a y o):s.TypeIs (.ref a) "dict":=by
 rcases g with ⟨kvs,k,e,_,_⟩|⟨kvs,k,b,e,_,_,_⟩
 ·obtain⟨_,_,vs,_,dd⟩:=zvl I.hok e
  exact dd.typeIs
 ·obtain⟨_,_,xs,_,dd⟩:=zvk I.hok e
  exact dd.typeIs
def tDGet(td ty:TE):TE:=λσ H Q=>td σ H λx H1=>ty σ H1 λy H2=>∃a v,x=.ref a/\DGet H2 a y (some v)/\Q v H2
def tDIn(ty td:TE):TE:=λσ H Q=>ty σ H λy H1=>td σ H1 λx H2=>∃a o,x=.ref a/\DGet H2 a y o/\Q (.bl o.isSome) H2
def sDPut(td ty tv:TE):TS:=λD σ H=>tv σ H λv H1=>td σ H1 λx H2=>ty σ H2 λy H3=>∃a H4,x=.ref a/\DPut H3 a y v H4/\D.nx σ H4
section
variable{X:Cx}{o i e value:Expr}{pos pos' tpos:Pos}{td ty tv:TE}
theorem zfl(hu:X.A.units+1<cLine)(ho:PE X o td)(hi:PE X i ty)(hs:NoSl i):PE X (.Subscript o i pos) (tDGet td ty):=by
 intro pins s σ H Q I h
 refine qc0 PySem.F.slot_dict_getitem.lookup hs (thn (ho pins s σ H _ I h) λu s1 ⟨x,H1,I1,rx,q1⟩=>thn (hi pins s1 σ H1 _ I1 q1) λiv s2 ⟨y,H2,I2,ry,a,v,ex,g,q2⟩=>?_)
 subst ex
 obtain rfl:u=Value.ref a:=rx
 exact⟨zr5 I2 g,zy7 hu I2 g ry λw' s3 I3 rw'=>⟨v,H2,I3,rw',q2⟩⟩
theorem zm3(hu:X.A.units+1<cLine)(hi:PE X i ty)(ho:PE X o td):PC X .In i o (tDIn ty td):=by
 intro pins s σ H Q I h
 refine thn (hi pins s σ H _ I h) λiv s1 ⟨y,H1,I1,ry,q1⟩=>thn (ho pins s1 σ H1 _ I1 q1) λu s2 ⟨x,H2,I2,rx,a,ov,ex,g,q2⟩=>?_
 subst ex
 obtain rfl:u=Value.ref a:=rx
 exact d_in hu I2 g ry λs3 I3=>⟨.bl ov.isSome,H2,I3,rfl,q2⟩
theorem zkq(hu:X.A.units+1<cLine)(ho:PE X o td)(hi:PE X i ty)(hv:PE X value tv)(hs:swapsWith value (some (.Subscript o i pos')) pos.line X.env=pure false) :
  PS X (.Assign [.Subscript o i pos'] value pos) (sDPut td ty tv):=by
 intro pins s σ H D I h
 refine wpAny_Assign_Subscript (thn (hv pins s σ H _ I h) λr s1 ⟨v,H1,I1,rv,q1⟩=>thn (ho pins s1 σ H1 _ I1 q1) λu s2 ⟨x,H2,I2,rx,q2⟩=>thn (hi pins s2 σ H2 _ I2 q2) λiv s3 ⟨y,H3,I3,ry,a,H4,ex,g,q3⟩=>?_) hs
 subst ex
 obtain rfl:u=Value.ref a:=rx
 exact zy6 hu I3 g ry rv λs4 I4=>⟨σ,H4,I4,q3⟩
end
theorem qbr{P:Program}{w:World}{H:Hp}(h:Heap)(hb:sysModules<h.objs.size):ObjOk P w H (h.push { cls:=.type "dict",data:=.dict #[] }) h.objs.size (.dK []):=
 ⟨qg2 _,beq_eq_false_iff_ne.mpr (Ne.symm (qf6 hb)),[],.nil,Heap.DictOf.new h⟩
def tDNewK:TE:=λ_ H Q=>∀p,H p=none->Q (.ref p) (upd H p (.dK []))
section
variable{X:Cx}{pos:Pos}
theorem zju:PE X (.Dict [] [] pos) tDNewK:=λpins s σ H Q I h=>
 wpAny_Dict_empty ⟨.ref s.heap.objs.size,_,I.laid (a:=s.heap.objs.size) (o:=.dK []) (t':=s.toks) (λ_ _ q=>Heap.get?_push_of_some _ q) (qfh _) (qbr s.heap I.big),rfl,h _ (I.hok.fresh (qfh _))⟩
end
def zd6(kvs more:List (Key×V)):List (Key×V):=more.foldl (λacc kv=>zid acc kv.1 kv.2) kvs
theorem KV.merge:∀{more:List (Key×V)}{rs:List (Key×Value)}{kvs:List (Key×V)}{vs:List (Key×Value)},KV more rs->KV kvs vs->KV (zd6 kvs more) (merged vs rs):=by
 intro more rs kvs vs r
 unfold KV at r
 induction r generalizing kvs vs with
 |nil=>intro q;exact q
 | @cons p q ps qs h t ih=>
  intro r0
  have e:KV (zid kvs p.1 p.2) (stored vs q.1 q.2):=by
   have:=r0.put p.1 h.2
   rw[<-h.1];exact this
  exact ih e
theorem zhy:∀(more kvs:List (Key×V)),(zd6 kvs more).length<=kvs.length+more.length
 |[],kvs=>by show kvs.length<=kvs.length+0;lia
 |p::r,kvs=>by
  have h1:=zhy r (zid kvs p.1 p.2)
  have h2:=zg1 kvs p.1 p.2
  show (zd6 (zid kvs p.1 p.2) r).length<=_
  rw[qfd];lia
structure M2(X:Cx)(o:Expr)(m:Str)(apos:Pos)(e f:Expr)(cpos:Pos):Prop where
 base:attributeBase o m X.env (eval o X.env)=eval o X.env
 few:((backTo cpos (starEach [e,f] X.env)).all (λx=>!x.1) && (backToKw cpos (keywordEach [] X.env)).all (λx=>x.1.isSome)
  && decide (([e,f]:List Expr).length+([]:List Keyword).length+(if ([]:List Keyword).isEmpty then 0 else 1)<30))=true
 line:(apos.endLine == cpos.line)=true
 trees:backTo cpos (starEach [e,f] X.env)=[(false,eval e X.env),(false,eval f X.env)]
def IsD(H:Hp)(a:Addr):Prop:=(∃kvs,Rd H a (.dK kvs))\/∃kvs,Rd H a (.dT kvs)
theorem isD_at{X:Cx}{pins:List (Addr×Obj)}{σ:St}{H:Hp}{s:Shared}{a:Addr}(I:Inv X pins σ H s)(d:IsD H a) :
  s.TypeIs (.ref a) "dict"/\(∀b,Value.ref a=.ref b->∃ob,s.heap.get? b=some ob/\ob.dict=none)/\(a == sysModules)=false:=by
 rcases d with ⟨kvs,e⟩|⟨kvs,e⟩
 ·obtain⟨_,hd,vs,_,dd⟩:=zvl I.hok e
  refine⟨dd.typeIs,λb q=>?_,hd⟩
  cases q
  obtain⟨ob,_,_,h1,h2,_⟩:=dd
  exact⟨ob,h1,h2.2.1⟩
 ·obtain⟨_,hd,xs,_,dd⟩:=zvk I.hok e
  refine⟨dd.typeIs,λb q=>?_,hd⟩
  cases q
  obtain⟨ob,_,_,h1,h2,_⟩:=dd
  exact⟨ob,h1,h2.2.1⟩
section
variable{X:Cx}{pins:List (Addr×Obj)}{σ:St}{H:Hp}{s:Shared}{a:Addr}{y d:V}{u r:Value}{o:Option V}{A:Around}{E:Value->Shared->Prop}
theorem d_get2{Q:Value->Shared->Prop}(hu:A.units+1<cLine)(I:Inv X pins σ H s)(g:DGet H a y o)(ry:RelV y u)(rd:RelV d r)(h:∀w' s',Inv X pins σ H s'->RelV (o.getD d) w'->Q w' s') :
  wpAny (model X.prog X.w) A (call (.builtin "dict.get") [.ref a,u,r]) Q E s:=by
 rcases g with ⟨kvs,k,e,ey,l⟩|⟨kvs,k,b,e,ey,eb,l⟩
 ·subst ey
  obtain⟨z,hd,vs,rel,dd⟩:=zvl I.hok e
  refine call_meetsIn qi2 dd.typeIs qj3 (qjt _ _ _) (meets_dict_get_default (zbh X.prog X.w) a (zvb ry) hd r) ⟨_,dd.mapOf,h _ _ (I.tok _) ?_⟩
  rw[l]
  exact (rel.val k).getD rd
 ·subst ey
  cases (show u=Value.ref b from ry)
  obtain⟨z,hd,xs,rel,dd⟩:=zvk I.hok e
  refine call_meetsIn qi2 dd.typeIs qj3 (qjt _ _ _) (meetsH_dict_get_default (tupleKind (zbh X.prog X.w)) a b hd r) ⟨tupleKind_room_in1 hu,k,xs,zpu I.hok eb,dd,h _ _ (I.tok _) ?_⟩
  rw[l]
  exact (rel.val k).getD rd
end
def tDGet2(td ty tx:TE):TE:=λσ H Q=>td σ H λx H1=>∃a,x=.ref a/\IsD H1 a/\ty σ H1 λy H2=>tx σ H2 λz H3=>∃o,DGet H3 a y o/\Q (o.getD z) H3
section
variable{X:Cx}{o e f:Expr}{apos cpos:Pos}{td ty tx:TE}
theorem qap(hu:X.A.units+1<cLine)(ho:PE X o td)(he:PE X e ty)(hf:PE X f tx)(m:M2 X o "get" apos e f cpos):PE X (.Call (.Attribute o "get" apos) [e,f] [] cpos) (tDGet2 td ty tx):=by
 intro pins s σ H Q I h
 refine wpAny_Call_method m.base m.few m.line PySem.F.plainAttrs_dict qi2 PySem.F.type_dict_get (thn (ho pins s σ H _ I h) λu s1 ⟨x,H1,I1,rx,a,ex,d,q1⟩=>?_)
 subst ex
 obtain rfl:u=Value.ref a:=rx
 obtain⟨t1,t2,_⟩:=isD_at I1 d
 refine⟨t1,t2,?_⟩
 rw[m.trees]
 refine Calls.callWith_builtin rfl (Calls.evalArgs_plain (Calls.spliced_cons (thn (he pins s1 σ H1 _ I1 q1) λiv s2 ⟨y,H2,I2,ry,q2⟩=>
  Calls.spliced_cons (thn (hf pins s2 σ H2 _ I2 q2) λfv s3 ⟨z,H3,I3,rz,ov,g,q3⟩=>Calls.spliced_nil ?_))))
 exact d_get2 hu I3 g ry rz λw' s4 I4 rw'=>⟨_,H3,I4,rw',q3⟩
end
theorem zsv:entryFor table "dict.update.loop"=some Builtin.«dict.update.loop»:=entryFor_of_tree (by kernel_rfl)
theorem zhg:plainId "dict.update.loop"=true:=by decide +kernel
section
variable{X:Cx}{pins:List (Addr×Obj)}{σ:St}{H:Hp}{s:Shared}{h':Heap}
theorem Inv.turnedL{t':Nat}{ch:List Addr}(I:Inv X pins σ H s)(k:∀b o,b ∉ ch->s.heap.get? b=some o->h'.get? b=some o)(hf:∀b∈ch,zon X pins H b):Inv X pins σ H { s with heap:=h',toks:=t' }:=by
 have nit:∀b u,H b=some u->b ∉ ch:=λb u e z=>by
  have q:=(hf b z).1
  rw[q]at e;cases e
 refine I.step (g':=s.gens) (d':=s.drawn) (ch:=ch) (λb hb=>⟨(hf b hb).2.2.2.1,(hf b hb).2.1,(hf b hb).2.2.2.2.1,(hf b hb).2.2.2.2.2⟩) (λb o _ _ hc e _=>k b o hc e) (λb o _ _ hc e _=>⟨o.slots,k b o hc e⟩)
  (λ_ _ _ _ n=>n) (λb o hc e=>⟨o,k b o hc e⟩) (λ_ _ e=>e) (λ_ _ _ e=>e) (λb ps e=>⟨#[],by rw[e];simp⟩) (λm hm=>?_) (λb u e=>?_) I.bare
 ·obtain⟨o,es,ep,ho,r⟩:=hm
  exact⟨o,es,ep,k _ o (λz=>(hf _ z).2.1 rfl) ho,r⟩
 ·refine (I.hok b u e).stay (λc v hc q=>k c v ?_ q) (λ_ q=>q) λ_ _ q=>q
  rcases hc with z|z
  ·rw[z];exact nit b u e
  ·exact nit c _ z
theorem Inv.turnedNew{t':Nat}{ch:List Addr}{T:Addr}{ob:HO}(I:Inv X pins σ H s)(k:∀b o,b ∉ ch->s.heap.get? b=some o->h'.get? b=some o)(hf:∀b∈ch,zon X pins H b)(hT:s.heap.objs.size<=T)(new:ObjOk X.prog X.w (upd H T ob) h' T ob):Inv X pins σ (upd H T ob) { s with heap:=h',toks:=t' }:=by
 have hn:H T=none:=I.hok.fresh hT
 have nit:∀b u,H b=some u->b ∉ ch:=λb u e z=>by
  have q:=(hf b z).1
  rw[q]at e;cases e
 refine I.step (g':=s.gens) (d':=s.drawn) (ch:=ch) (λb hb=>⟨(hf b hb).2.2.2.1,(hf b hb).2.1,(hf b hb).2.2.2.2.1,(hf b hb).2.2.2.2.2⟩) (λb o _ _ hc e _=>k b o hc e) (λb o _ _ hc e _=>⟨o.slots,k b o hc e⟩)
  (λb o _ e n=>?_) (λb o hc e=>⟨o,k b o hc e⟩) (λb xs e=>?_) (λb o u e=>?_) (λb ps e=>⟨#[],?_⟩) (λm hm=>?_) (λb u e=>?_) I.bare
 ·rw[zai (qf6 (qfn (Heap.lt_size e) hT))];exact n
 ·rw[zai (zah e hn)];exact e
 ·rw[zai (zah e hn)];exact e
 ·rw[zai (zah e hn),e];simp
 ·obtain⟨o,es,ep,ho,r⟩:=hm
  exact⟨o,es,ep,k _ o (λz=>(hf _ z).2.1 rfl) ho,r⟩
 ·by_cases hb:b=T
  ·subst hb
   rw[zac]at e
   cases e
   exact new
  ·rw[zai hb]at e
   refine (I.hok b u e).stay (λc v hc q=>k c v ?_ q) (λc q=>by rw[zai (zah q hn)];exact q) λc xs q=>by rw[zai (zah q hn)];exact q
   rcases hc with z|z
   ·rw[z];exact nit b u e
   ·exact nit c _ z
end
section
variable{X:Cx}
theorem qb9{tg:Expr}{pins:List (Addr×Obj)}{σ:St}{H:Hp}{s:Shared}{R:It->Hp->Prop}{J:It}{tn:Nat->Heap->Prop}{tk:Nat}(I:Inv X pins σ H s)(o:Obj)(T:qe1 X.prog X.w X.K tg J [s.heap.objs.size] s.heap.objs.size tn)(st:tn 0 (s.heap.push o))(q:R J H):PIE X pins σ tg R (.ref s.heap.objs.size) { s with heap:=s.heap.push o,toks:=tk }:=by
 refine⟨s.heap.objs.size,[s.heap.objs.size],tn,J,H,rfl,I.kept λb ob e=>Heap.get?_push_of_some _ e,T,st,λb hb=>?_,q⟩
 have e:b=s.heap.objs.size:=by simpa using hb
 subst e
 exact I.fpOk (qfh _) (I.hok.fresh (qfh _))
end
def Its(x:Str):It:=⟨λi _=>i<x.cps.size,λi H v H'=>H'=H/\∃c,x.cps[i]?=some c/\v=.str ⟨#[c]⟩,λi _=>x.cps.size<=i⟩
theorem zsw{P:Program}{w:World}{K:qfa}{tg:Expr}(it:Addr)(x:Str)(t:Tok)(ty:String)(hty:ty="str_ascii_iterator"\/ty="str_iterator") :
  qe1 P w K tg (Its x) [it] it (λi h=>h.IsStrIter it ty x t i) where
 mem:=by simp
 obj:=λi h st b hb=>by
  have e:b=it:=by simpa using hb
  subst e
  obtain⟨o,e,c,d⟩:=st
  exact⟨o,e,λv z=>by rw[d]at z;cases z⟩
 keep:=λi h h' st k=>let ⟨o,ho,r⟩:=st;⟨o,k it (by simp) o ho,r⟩
 item:=by
  intro X hP hw hK hc i pins s σ H E I hf st hg
  subst hP hw hK
  obtain⟨f0,f1,f2,f3,f4,f5⟩:=hf it (by simp)
  have W:Walks X.prog X.w X.A it [it] [it] x.cps.size (SignAt x) (λi h=>h.IsStrIter it ty x t i):=by
   rcases hty with e|e
   ·rw[e];exact Walks.strAscii (I.ok.hd hc) it x t
   ·rw[e];exact Walks.strWide (I.ok.hd hc) it x t
  have hno:["enumerate","zip","dict_itemiterator","dict_reverseitemiterator","odict_iterator","itertools.zip_longest","itertools.pairwise"].contains ty=false:=by
   rcases hty with e|e
   ·rw[e];decide
   ·rw[e];decide
  refine W.item i s _ _ hg st λv h' tk hv st' kk=>?_
  obtain⟨c,u,hcx,rfl⟩:=hv
  have I1:Inv X pins σ H { s with heap:=h',toks:=tk }:=I.turned (λb o hb e=>kk b o (by simpa using hb) e) f0 f1 f3 f4 f5
  obtain⟨oi,e,cc,dd⟩:=id st'
  exact⟨_,rfl,qes (s:={ s with heap:=h',toks:=tk }) e cc dd hno ⟨.str ⟨#[c]⟩,H,I1,⟨u,rfl⟩,⟨rfl,c,hcx,rfl⟩,st',λb hb=>(hf b hb).1⟩⟩
 done:=by
  intro X hP hw hK hc i pins s σ H E I hf st hg
  subst hP hw hK
  obtain⟨f0,f1,f2,f3,f4,f5⟩:=hf it (by simp)
  have hx:x.cps[i]?=none:=Array.getElem?_eq_none hg
  rcases hty with e|e
  ·rw[e]at st
   exact wpAny_pyNext_ascii_end (I.ok.hd hc) st hx λh' eb=>⟨rfl,I.turned (t':=s.toks) (λb o hb e=>eb b o hb e) f0 f1 f3 f4 f5⟩
  ·rw[e]at st
   exact wpAny_pyNext_wide_end (I.ok.hd hc) st hx λh' eb=>⟨rfl,I.turned (t':=s.toks) (λb o hb e=>eb b o hb e) f0 f1 f3 f4 f5⟩
 self:=λA i s Q E st h=>by
  rcases hty with e|e
  ·rw[e]at st;exact wpAny_pyIter_striter_ascii st h
  ·rw[e]at st;exact wpAny_pyIter_striter_wide st h
def iStr(te:TE):TI:=λσ H R=>te σ H λv H1=>∃x,v=.str x/\R (Its x) H1
theorem pi_str{X:Cx}{tg e:Expr}{te:TE}(he:PE X e te):PI X tg e (iStr te):=by
 intro pins s σ H R I h
 refine thn (he pins s σ H _ I h) λv s1 ⟨y,H1,I1,r1,x,ex,q⟩=>?_
 subst ex
 obtain⟨t,rfl⟩:=r1
 cases ha:x.cps.all (·<128)
 ·exact wpAny_pyIter_wide ha (qb9 (tk:=s1.toks) I1 _ (zsw _ x t "str_iterator" (.inr rfl)) ⟨_,Heap.get?_push_size _ rfl,rfl,rfl⟩ q)
 ·exact wpAny_pyIter_ascii ha (qb9 (tk:=s1.toks) I1 _ (zsw _ x t "str_ascii_iterator" (.inl rfl)) ⟨_,Heap.get?_push_size _ rfl,rfl,rfl⟩ q)
def Ite(K:qfa)(a:Addr):It:=
 ⟨λi H=>∃(xs:List V)(x:V),SqL K H a xs/\xs[i]?=some x,λi H v H'=>∃T x,v=.ref T/\H T=none/\H'=upd H T (.tup [.int (i:Nat),x])/\∀xs,SqL K H a xs->xs[i]?=some x,λi H=>∃xs:List V,SqL K H a xs/\xs.length<=i⟩
theorem zwe{P:Program}{w:World}{K:qfa}{elts:List Expr}{kk:Nat}{tpos:Pos}(a e it:Addr) :
  qe1 P w K (.Tuple elts kk tpos) (Ite K a) [e,it] e (λi h=>(∃old,IsEnum h e it ((i:Nat):Int) old)/\h.IsListIter it a i/\e≠it) where
 mem:=by simp
 obj:=λi h st b hb=>by
  obtain⟨⟨old,he⟩,⟨o,ho,hc,hd⟩,_⟩:=st
  have e':b=e\/b=it:=by simpa using hb
  rcases e' with z|z
  ·rw[z];exact⟨_,he,λv q=>nomatch q⟩
  ·rw[z];exact⟨o,ho,λv q=>by rw[hd]at q;cases q⟩
 keep:=λi h h' st k=>let ⟨⟨old,he⟩,hi,hne⟩:=st;⟨⟨old,k e (by simp) _ he⟩,hi.at λo q=>k it (by simp) o q,hne⟩
 item:=by
  intro X hP hw hK hc i pins s σ H E I hf st hg
  subst hP hw hK
  obtain⟨⟨old,he⟩,hit,hne⟩:=st
  obtain⟨xs,x,hq,hx⟩:=hg
  obtain⟨its,rv,p,hz⟩:=I.list hq
  obtain⟨u,hu,ru⟩:=rv.get hx
  have hel:e<s.heap.objs.size:=Heap.lt_size he
  have hil:it<s.heap.objs.size:=by obtain⟨_,q,_⟩:=hit;exact Heap.lt_size q
  refine wpAny_pyNext_enum_item he hit p.isList (x:=u) (by simpa using hu) hne λh' ho hit' hT hsz hk=>?_
  refine⟨_,rfl,wpAny_letOwnedTupleGo_enum (s:={ s with heap:=h',toks:=s.toks+1 }) ho λh'' he' sb=>?_⟩
  have hT2:h''.get? s.heap.objs.size=some { cls:=.type "tuple",data:=.seq #[.int i s.toks,u] }:=(sb.2 _ (qhm hel)).trans hT
  have new:ObjOk X.prog X.w (upd H s.heap.objs.size (.tup [.int (i:Nat),x])) h'' s.heap.objs.size (.tup [.int (i:Nat),x]):=
   ⟨by show 2<=sizeLine;decide,[.int i s.toks,u],.cons ⟨_,rfl⟩ (.cons ru .nil),⟨_,hT2,rfl,_,rfl⟩⟩
  have I1:Inv X pins σ (upd H s.heap.objs.size (.tup [.int (i:Nat),x])) { s with heap:=h'',toks:=s.toks+1 }:=
   I.turnedNew (ch:=[e,it]) (λb ob hb q=>(sb.2 b (λz=>hb (by simp[z]))).trans (hk b ob (λz=>hb (by simp[z])) (λz=>hb (by simp[z])) q)) hf (qfh _) new
  refine⟨.ref s.heap.objs.size,_,I1,rfl,⟨_,x,rfl,I.hok.fresh (qfh _),rfl,λys hy=>by rw[I.list_inj hy hq];exact hx⟩,⟨⟨u,?_⟩,hit'.at λo q=>(sb.2 it (Ne.symm hne)).trans q,hne⟩,λb hb=>?_⟩
  ·have e1:((i+1:Nat):Int)=(i:Int)+1:=by lia
   rw[e1];exact he'
  ·have hb':b<s.heap.objs.size:=by
    have e':b=e\/b=it:=by simpa using hb
    rcases e' with z|z
    ·rw[z];exact hel
    ·rw[z];exact hil
   rw[zai (qf6 hb')]
   exact (hf b hb).1
 done:=by
  intro X hP hw hK hc i pins s σ H E I hf st hg
  subst hP hw hK
  obtain⟨⟨old,he⟩,hit,hne⟩:=st
  obtain⟨xs,hq,hx⟩:=hg
  obtain⟨its,rv,p,hz⟩:=I.list hq
  obtain⟨f0,f1,f2,f3,f4,f5⟩:=hf it (by simp)
  have hl:=rv.length
  exact wpAny_pyNext_enum_end (I.ok.hd hc) he hit p.isList (by simp;lia) λh' eb=>⟨rfl,I.turned (t':=s.toks) (λb o hb q=>eb b o hb q) f0 f1 f3 f4 f5⟩
 self:=λA i s Q E st h=>let ⟨⟨_,he⟩,_⟩:=st;wpAny_pyIter_enum he h
def iEnum(K:qfa)(ta:TA):TI:=λσ H R=>ta σ H λvs H1=>∃a xs,vs=[.ref a]/\SqL K H1 a xs/\R (Ite K a) H1
theorem zns{X:Cx}{e:Expr}{ta:TA}{p pos tpos:Pos}{elts:List Expr}{kk:Nat}(hg:Gl X "enumerate")(hm:X.mg "enumerate"=none)(ha:PA X [e] ta)(hs:starEach [e] X.env=[(false,eval e X.env)]:=by rfl) :
  PI X (.Tuple elts kk tpos) (.Call (.Name "enumerate" p) [e] [] pos) (iEnum X.K ta):=by
 intro pins s σ H R I h
 refine Call_ (zhz I hg hm boot_enumerate (PyProof.Rows.callWith_type1 (thn (ha pos pins s σ H _ I h) λus s1 ⟨vs,H1,I1,r1,q1⟩=>?_) hs rfl))
 obtain⟨a,xs,ex,hq,q⟩:=q1
 subst ex
 cases r1 with
 |cons r rr=>
  cases rr
  cases r
  obtain⟨its,rv,p',hz⟩:=I1.list hq
  refine call_enumerate_list p'.isList λh' he hit hsz hk=>wpAny_pyIter_enum he ?_
  have I2:Inv X pins σ H1 { s1 with heap:=h' }:=I1.kept (t':=s1.toks) hk
  refine⟨s1.heap.objs.size+1,[s1.heap.objs.size+1,s1.heap.objs.size],_,_,H1,rfl,I2,zwe a (s1.heap.objs.size+1) s1.heap.objs.size,⟨⟨.none,he⟩,hit,Nat.succ_ne_self _⟩,λb hb=>?_,q⟩
  have e':b=s1.heap.objs.size+1\/b=s1.heap.objs.size:=by simpa using hb
  have hle:s1.heap.objs.size<=b:=by
   rcases e' with z|z
   ·rw[z];exact qhh _ _
   ·rw[z];exact qfh _
  exact I1.fpOk hle (I1.hok.fresh hle)
theorem zqf:bootBuiltins "zip"=some (.type "zip"):=by decide +kernel
def Itz(K:qfa)(a b:Addr):It:=
 ⟨λi H=>∃(xs ys:List V)(x y:V),SqL K H a xs/\SqL K H b ys/\xs[i]?=some x/\ys[i]?=some y,
  λi H v H'=>∃T x y,v=.ref T/\H T=none/\H'=upd H T (.tup [x,y])/\(∀xs,SqL K H a xs->xs[i]?=some x)/\∀ys,SqL K H b ys->ys[i]?=some y,
  λi H=>∃xs ys:List V,SqL K H a xs/\SqL K H b ys/\(xs.length<=i\/ys.length<=i)⟩
theorem zzy{P:Program}{w:World}{K:qfa}{elts:List Expr}{kk:Nat}{tpos:Pos}{a b z TI TO i1 i2:Addr}(D:ZipApart z TI TO i1 i2 a b) :
  qe1 P w K (.Tuple elts kk tpos) (Itz K a b) [z,TI,TO,i1,i2] z (λi h=>IsZip h z TI TO .none/\IsPair h TI (.ref i1) (.ref i2)/\(∃x y,IsPair h TO x y)/\h.IsListIter i1 a i/\h.IsListIter i2 b i) where
 mem:=by simp
 obj:=λi h st c hc=>by
  obtain⟨hz,hTI,⟨x,y,hTO⟩,⟨o1,e1,_,d1⟩,⟨o2,e2,_,d2⟩⟩:=st
  have e':c=z\/c=TI\/c=TO\/c=i1\/c=i2:=by simpa using hc
  rcases e' with q|q|q|q|q
  ·rw[q];exact⟨_,hz,λv q=>nomatch q⟩
  ·rw[q];exact⟨_,hTI,λv q=>nomatch q⟩
  ·rw[q];exact⟨_,hTO,λv q=>nomatch q⟩
  ·rw[q];exact⟨o1,e1,λv q=>by rw[d1]at q;cases q⟩
  ·rw[q];exact⟨o2,e2,λv q=>by rw[d2]at q;cases q⟩
 keep:=λi h h' st k=>by
  obtain⟨hz,hTI,⟨x,y,hTO⟩,h1,h2⟩:=st
  exact⟨k z (by simp) _ hz,k TI (by simp) _ hTI,⟨x,y,k TO (by simp) _ hTO⟩,h1.at λo q=>k i1 (by simp) o q,h2.at λo q=>k i2 (by simp) o q⟩
 item:=by
  intro X hP hw hK hc i pins s σ H E I hf st hg
  subst hP hw hK
  obtain⟨hz,hTI,⟨x0,y0,hTO⟩,h1,h2⟩:=st
  obtain⟨xs,ys,x,y,hqx,hqy,hx,hy⟩:=hg
  obtain⟨its,rv,p,_⟩:=I.list hqx
  obtain⟨its2,rv2,p2,_⟩:=I.list hqy
  obtain⟨u,hu,ru⟩:=rv.get hx
  obtain⟨u2,hu2,ru2⟩:=rv2.get hy
  have hzl:z<s.heap.objs.size:=Heap.lt_size hz
  refine wpAny_pyNext_zip_item D hz hTI hTO h1 h2 p.isList p2.isList (x:=u) (y:=u2) (by simpa using hu) (by simpa using hu2) λh' z' TO' h1' h2' hT hsz hk=>?_
  refine⟨_,rfl,wpAny_letOwnedTupleGo_zip (s:={ s with heap:=h' }) z' λh'' z'' sb=>?_⟩
  have hT2:h''.get? s.heap.objs.size=some { cls:=.type "tuple",data:=.seq #[u,u2] }:=(sb.2 _ (qhm hzl)).trans hT
  have new:ObjOk X.prog X.w (upd H s.heap.objs.size (.tup [x,y])) h'' s.heap.objs.size (.tup [x,y]):=
   ⟨by show 2<=sizeLine;decide,[u,u2],.cons ru (.cons ru2 .nil),⟨_,hT2,rfl,_,rfl⟩⟩
  have I1:Inv X pins σ (upd H s.heap.objs.size (.tup [x,y])) { s with heap:=h'' }:=
   I.turnedNew (t':=s.toks) (ch:=[z,TI,TO,i1,i2]) (λc o hb q=>(sb.2 c (λq'=>hb (by simp[q']))).trans (hk c o (λq'=>hb (by simp[q'])) (λq'=>hb (by simp[q'])) (λq'=>hb (by simp[q'])) (λq'=>hb (by simp[q'])) q)) hf (qfh _) new
  refine⟨.ref s.heap.objs.size,_,I1,rfl,⟨_,x,y,rfl,I.hok.fresh (qfh _),rfl,λl hl=>by rw[I.list_inj hl hqx];exact hx,λl hl=>by rw[I.list_inj hl hqy];exact hy⟩,⟨z'',?_,⟨u,u2,?_⟩,?_,?_⟩,λc hcm=>?_⟩
  ·exact (sb.2 _ D.TIz).trans (hk _ _ D.TIz D.TITO D.TIi1 D.TIi2 hTI)
  ·exact (sb.2 _ D.TOz).trans TO'
  ·exact h1'.at λo q=>(sb.2 _ D.i1z).trans q
  ·exact h2'.at λo q=>(sb.2 _ D.i2z).trans q
  ·have hlt:c<s.heap.objs.size:=by
    have e':c=z\/c=TI\/c=TO\/c=i1\/c=i2:=by simpa using hcm
    rcases e' with q|q|q|q|q
    ·rw[q];exact hzl
    ·rw[q];exact Heap.lt_size hTI
    ·rw[q];exact Heap.lt_size hTO
    ·rw[q];obtain⟨_,e1,_⟩:=h1;exact Heap.lt_size e1
    ·rw[q];obtain⟨_,e2,_⟩:=h2;exact Heap.lt_size e2
   rw[zai (qf6 hlt)]
   exact (hf c hcm).1
 done:=by
  intro X hP hw hK hc i pins s σ H E I hf st hg
  subst hP hw hK
  obtain⟨hz,hTI,⟨x0,y0,hTO⟩,h1,h2⟩:=st
  obtain⟨xs,ys,hqx,hqy,hend⟩:=hg
  obtain⟨its,rv,p,_⟩:=I.list hqx
  obtain⟨its2,rv2,p2,_⟩:=I.list hqy
  have l1:=rv.length
  have l2:=rv2.length
  have he:its.toArray[i]?=none\/its2.toArray[i]?=none:=by
   rcases hend with q|q
   ·exact .inl (by simp;lia)
   ·exact .inr (by simp;lia)
  exact wpAny_pyNext_zip_end (I.ok.hd hc) D hz hTI hTO h1 h2 p.isList p2.isList he λh' hk=>⟨rfl,I.turnedL (t':=s.toks) (ch:=[z,TI,TO,i1,i2]) (λc o hb q=>
   hk c o (λq'=>hb (by simp[q'])) (λq'=>hb (by simp[q'])) (λq'=>hb (by simp[q'])) (λq'=>hb (by simp[q'])) q) hf⟩
 self:=λA i s Q E st h=>wpAny_pyIter_zip st.1 h
def iZip(K:qfa)(ta:TA):TI:=λσ H R=>ta σ H λvs H1=>∃a b xs ys,vs=[.ref a,.ref b]/\SqL K H1 a xs/\SqL K H1 b ys/\R (Itz K a b) H1
theorem ztb{X:Cx}{e e2:Expr}{ta:TA}{p pos tpos:Pos}{elts:List Expr}{kk:Nat}(hg:Gl X "zip")(hm:X.mg "zip"=none)(ha:PA X [e,e2] ta)(hs:starEach [e,e2] X.env=(false,eval e X.env)::starEach [e2] X.env:=by rfl)(hpl:(backTo pos (starEach [e2] X.env)).any (·.1)=false:=by rfl) :
  PI X (.Tuple elts kk tpos) (.Call (.Name "zip" p) [e,e2] [] pos) (iZip X.K ta):=by
 intro pins s σ H R I h
 refine Call_ (zhz I hg hm zqf (PyProof.Rows.callWith_type1 (thn (ha pos pins s σ H _ I h) λus s1 ⟨vs,H1,I1,r1,q1⟩=>?_) hs hpl))
 obtain⟨a,b,xs,ys,ex,hqx,hqy,q⟩:=q1
 subst ex
 cases r1 with
 |cons r rr=>
  cases rr with
  |cons r' rr=>
   cases rr
   cases r
   cases r'
   obtain⟨its,rv,p1,_⟩:=I1.list hqx
   obtain⟨its2,rv2,p2,_⟩:=I1.list hqy
   have la:a<s1.heap.objs.size:=p1.lt
   have lb:b<s1.heap.objs.size:=p2.lt
   refine call_zip_2 p1.isList p2.isList λh' hz hTI hTO h1 h2 hsz hk=>wpAny_pyIter_zip hz ?_
   have I2:Inv X pins σ H1 { s1 with heap:=h' }:=I1.kept (t':=s1.toks) hk
   refine⟨s1.heap.objs.size+4,[s1.heap.objs.size+4,s1.heap.objs.size+2,s1.heap.objs.size+3,s1.heap.objs.size,s1.heap.objs.size+1],_,_,H1,rfl,I2,zzy (PySem.W.ktu_apart s1.heap.objs.size a b la lb),⟨hz,hTI,⟨_,_,hTO⟩,h1,h2⟩,λc hcm=>?_,q⟩
   have e':c=s1.heap.objs.size+4\/c=s1.heap.objs.size+2\/c=s1.heap.objs.size+3\/c=s1.heap.objs.size\/c=s1.heap.objs.size+1:=by simpa using hcm
   have hle:s1.heap.objs.size<=c:=by
    rcases e' with z|z|z|z|z
    ·rw[z];exact qhh _ _
    ·rw[z];exact qhh _ _
    ·rw[z];exact qhh _ _
    ·rw[z];exact qfh _
    ·rw[z];exact qhh _ _
   exact I1.fpOk hle (I1.hok.fresh hle)
end L2
section
namespace TL
open PySem PySem.Builtin PySem.Builtin.Str PySem.StrLaws
abbrev tl(x:Str):List Nat:=x.cps.toList
theorem zov(x y:Str):tl (x++y)=tl x++tl y:=by
 show (x++y).cps.toList=_
 rw[Str.cps_append,qjd]
def joinL(S:List Nat):List (List Nat)->List Nat
 |[]=>[]
 |[p]=>p
 |p::q::r=>p++(S++joinL S (q::r))
theorem tl_join(y:Str):∀parts:List Str,tl (Str.join y parts)=joinL (tl y) (parts.map tl)
 |[]=>rfl
 |[_]=>rfl
 |x::z::r=>by
  show tl (x++y++Str.join y (z::r))=tl x++(tl y++joinL (tl y) ((z::r).map tl))
  rw[zov,zov,tl_join y (z::r),qf7]
theorem join_eq(y:Str)(parts:List Str):Txt.join y parts=Str.join y parts:=glued_eq_join y parts
end TL
end
namespace L2
open PySem PySem.Spec PyProof.Rows
theorem zfb:∀{ys:List Str}{us:List Value},Vals (ys.map V.str) us->StrsAre us ys
 |[],_,.nil=>.nil
 |y::ys,_,.cons r t=>by
  obtain⟨k,rfl⟩:=r
  exact .cons y k (zfb t)
section
variable{X:Cx}
theorem qel:MtR X "str.join" (λx xs H Q=>∃a p,∃ys:List Str,x=.str a/\xs=[.ref p]/\(SqL X.K H p (ys.map V.str)\/SqT X.K H p (ys.map V.str)) ∧
  (ys.map (·.length)).sum+ys.length*a.length<=16777216/\Q (.str (Txt.join a ys)) H):=by
 intro pins s σ H x xs v us Q I rx rs h
 obtain⟨a,p,ys,rfl,rfl,hp,hz,h⟩:=h
 obtain⟨t,rfl⟩:=rx
 cases rs with
 |cons r1 rs=>
  cases rs
  cases r1
  rcases hp with hp|hp
  ·obtain⟨its,r,⟨o,n,ho,hc,_,hd⟩,_⟩:=I.list hp
   exact PyProof.Rows.join_list (items:=its.toArray) ⟨o,ho,hc,n,hd⟩ (by rw[qkj];exact zfb r) hz λt' k=>⟨.str _,H,I.tok k,⟨t',rfl⟩,h⟩
  ·obtain⟨its,r,ht,_⟩:=I.tuple hp
   exact PyProof.Rows.join_tuple (items:=its.toArray) ht (by rw[qkj];exact zfb r) hz λt' k=>⟨.str _,H,I.tok k,⟨t',rfl⟩,h⟩
theorem zqc:zmn X (.type "int") (λxs H Q=>∃a n,xs=[.str a]/\PySem.intText? a=some n/\a.length<=640/\Q (.int n) H):=by
 intro pins s σ H xs us Q I rs h
 obtain⟨a,n,rfl,hn,hl,h⟩:=h
 cases rs with
 |cons r1 rs=>
  cases rs
  obtain⟨t,rfl⟩:=r1
  exact PySem.W.KIN.call_text hn hl ⟨.int n,H,I.tok _,⟨_,rfl⟩,h⟩
end
section
variable{X:Cx}{o e:Expr}{to te:TE}
def tM1(r:V->List V->Hp->VK->Prop)(to te:TE):TE:=λσ H Q=>to σ H λx H1=>(∃a,x=.str a)/\te σ H1 λy H2=>r x [y] H2 Q
theorem pe_m1{id:String}{name:Str}{apos pos:Pos}{r:V->List V->Hp->VK->Prop}(slot:Slot "str" name id)(ty:typeOf (.builtin id)=pure (.type "method_descriptor"))(rule:MtR X id r)(ho:PE X o to)(he:PE X e te)(hs:starEach [e] X.env=[(false,eval e X.env)]:=by rfl)(hbase:attributeBase o name X.env (eval o X.env)=eval o X.env:=by rfl)(hline:(apos.endLine == pos.line)=true:=by rfl) :
  PE X (.Call (.Attribute o name apos) [e] [] pos) (tM1 r to te):=by
 intro pins s σ H Q I h
 refine PySem.Call_method1 hbase hs hline (thn (ho pins s σ H _ I h) λv s1 ⟨x,H1,I1,r1,q1⟩=>?_)
 obtain⟨⟨a,rfl⟩,q1⟩:=q1
 obtain⟨t,rfl⟩:=_root_.id r1
 refine⟨"str",_,F.plainAttrs_str,slot,ty,typeIs_str _ _ _,(λ_ e=>nomatch e),Calls.callWith_builtin rfl (Calls.evalArgs_plain (Calls.spliced_cons ?_))⟩
 exact thn (he pins s1 σ H1 _ I1 q1) λu s2 ⟨y,H2,I2,r2,q2⟩=>Calls.spliced_nil (rule pins s2 σ H2 _ [y] _ [u] Q I2 r1 (.cons r2 .nil) q2)
theorem qdx{apos pos:Pos}(ho:PE X o to)(he:PE X e te)(hs:starEach [e] X.env=[(false,eval e X.env)]:=by rfl)(hbase:attributeBase o "join" X.env (eval o X.env)=eval o X.env:=by rfl)(hline:(apos.endLine == pos.line)=true:=by rfl) :
  PE X (.Call (.Attribute o "join" apos) [e] [] pos) (tM1 (λx xs H Q=>∃a p,∃ys:List Str,x=.str a/\xs=[.ref p]/\(SqL X.K H p (ys.map V.str)\/SqT X.K H p (ys.map V.str)) ∧
   (ys.map (·.length)).sum+ys.length*a.length<=16777216/\Q (.str (Txt.join a ys)) H) to te):=
 pe_m1 F.slot_str_join F.type_str_join qel ho he hs hbase hline
end
section
variable{X:Cx}
theorem zf3:OpR X (compareOp .In) (λx y H Q=>∃(c:Nat)(z:Str),x=.str ⟨#[c]⟩/\y=.str z/\Q (.bl (decide (c∈z.cps.toList))) H):=by
 intro pins s σ H x y v u Q I rx ry h
 obtain⟨c,z,rfl,rfl,q⟩:=h
 obtain⟨t,rfl⟩:=rx
 obtain⟨t',rfl⟩:=ry
 exact PyProof.Rows.in_str (zbe I q (PySem.StrLaws.found_one z c).symm)
end
theorem IsPart.raw{v:Value}{o:Option Int}(p:IsPart v o):∃l:Option (Int×Tok),v=partValue l/\l.map (·.1)=o:=by
 cases p with
 |none=>exact⟨none,rfl,rfl⟩
 |int i t=>exact⟨some (i,t),rfl,rfl⟩
def zzb(n d:Nat):Option Int->Int
 |none=>(d:Int)
 |some i=>max 0 (min (if i<0 then i+(n:Int) else i) (n:Int))
theorem zt7(n d:Nat)(o:Option Int):zzb n d o=((HT.sIx n d o:Nat):Int):=by
 cases o with
 |none=>rfl
 |some v=>
  show max (0:Int) (min (if v<0 then v+(n:Int) else v) (n:Int))=(((if v<0 then (v+(n:Int)).toNat else min v.toNat n):Nat):Int)
  by_cases hv:v<0
  ·simp only[if_pos hv]
   lia
  ·simp only[if_neg hv]
   lia
theorem zwq(a b:Option Int)(n:Nat):Builtin.Str.strSliceIndices a b 1 n=sliceRange (zzb n 0 a) (zzb n n b) 1:=by
 have h1:((1:Int) > 0)=True:=by simp
 cases a <;> cases b <;> first
  |rfl
  |(simp only[Builtin.Str.strSliceIndices,zzb,h1,if_true];rfl)
  |simp[Builtin.Str.strSliceIndices,zzb]
theorem sidx(a b:Option Int)(n:Nat):Builtin.Str.strSliceIndices a b 1 n=(qgh (HT.sIx n n b - HT.sIx n 0 a)).map (λk=>HT.sIx n 0 a+k):=by
 rw[zwq,zt7,zt7]
 generalize HT.sIx n 0 a=p
 generalize HT.sIx n n b=q
 simp only[sliceRange,show ((1:Int) > 0)=True from by simp,if_true]
 by_cases hlt:(p:Int)<q
 ·have e3:(((q:Int) - p+1 - 1) / 1).toNat=q - p:=by first|lia|(simp;done)|(simp;lia)
  simp only[hlt,if_true,e3]
  refine qg0 λk _=>?_
  lia
 ·have:q - p=0:=by lia
  simp[hlt,this]
def cutS(z:Str)(lo hi:Option Int):Str:=
 ⟨((z.cps.toList.drop (HT.sIx z.length 0 lo)).take (HT.sIx z.length z.length hi - HT.sIx z.length 0 lo)).toArray⟩
theorem zhj(z:Str)(lo hi:Option Int):PySem.StrLaws.sliceText z lo hi=cutS z lo hi:=by
 have h1:HT.sIx z.length 0 lo<=z.length:=HT.sIx_le _ _ (qg2 _) _
 have h2:HT.sIx z.length z.length hi<=z.length:=HT.sIx_le _ _ (qfh _) _
 have hp:HT.sIx z.length 0 lo<=max (HT.sIx z.length 0 lo) (HT.sIx z.length z.length hi):=Nat.le_max_left _ _
 have hq:max (HT.sIx z.length 0 lo) (HT.sIx z.length z.length hi)<=z.length:=Nat.max_le.mpr ⟨h1,h2⟩
 have hd:max (HT.sIx z.length 0 lo) (HT.sIx z.length z.length hi) - HT.sIx z.length 0 lo=HT.sIx z.length z.length hi - HT.sIx z.length 0 lo:=by lia
 have e:Builtin.Str.strSliceIndices lo hi 1 z.length =
   Builtin.Str.strSliceIndices (some ((HT.sIx z.length 0 lo:Nat):Int)) (some ((max (HT.sIx z.length 0 lo) (HT.sIx z.length z.length hi):Nat):Int)) 1 z.length:=by
  rw[PySem.StrLaws.strSliceIndices_plain hp hq,hd,sidx]
 have e2:PySem.StrLaws.sliceText z lo hi =
   PySem.StrLaws.sliceText z (some ((HT.sIx z.length 0 lo:Nat):Int)) (some ((max (HT.sIx z.length 0 lo) (HT.sIx z.length z.length hi):Nat):Int)):=by
  unfold PySem.StrLaws.sliceText
  rw[e]
 rw[e2,PySem.StrLaws.sliceText_nat z hp hq,hd]
 rfl
theorem zr7(z:Str)(lo hi:Option Int):(cutS z lo hi).length<=z.length:=by
 show (((z.cps.toList.drop (HT.sIx z.length 0 lo)).take (HT.sIx z.length z.length hi - HT.sIx z.length 0 lo)).toArray).size<=z.cps.size
 rw[qfr,qfx,qgj,qhc]
 lia
def rSlS:V->Option Int->Option Int->Hp->VK->Prop:=λx lo hi H Q=>∃z,x=.str z/\z.length<=sizeLine/\Q (.str (cutS z lo hi)) H
theorem zwn{X:Cx}:SlR X rSlS:=by
 intro pins s σ H x v vl vu lo hi sl Q I rx hs pl pu h
 obtain⟨z,rfl,hz,q⟩:=h
 obtain⟨t,rfl⟩:=rx
 obtain⟨os,hos,hcs,hds⟩:=hs
 obtain⟨l,rfl,rfl⟩:=IsPart.raw pl
 obtain⟨u,rfl,rfl⟩:=IsPart.raw pu
 refine⟨"str",_,F.slot_str_getitem.lookup,typeIs_str _ _ _,?_⟩
 refine wpAny_getItem_str_slice (l:=l) (u:=u) (st:=none) ⟨os,hos,hcs,hds⟩ rfl ?_
 have hl:(PySem.StrLaws.sliceText z (l.map (·.1)) (u.map (·.1))).length<=sizeLine:=by
  rw[zhj]
  exact qgn (zr7 z _ _) hz
 rw[<-zhj]at q
 unfold PySem.StrLaws.sliceText at q hl
 show Made.post (if ((1:Int) == 1 && (Builtin.Str.strSliceIndices (l.map (·.1)) (u.map (·.1)) 1 z.length).length == z.length)=true then Made.val (.str z t)
  else Made.str ⟨((Builtin.Str.strSliceIndices (l.map (·.1)) (u.map (·.1)) 1 z.length).filterMap (z.cps[·]?)).toArray⟩) (EP X pins σ Q) s
 by_cases c:((1:Int) == 1 && (Builtin.Str.strSliceIndices (l.map (·.1)) (u.map (·.1)) 1 z.length).length == z.length)=true
 ·rw[if_pos c]at q ⊢
  exact⟨.str z,H,I,⟨t,rfl⟩,q⟩
 ·rw[if_neg c]at q hl ⊢
  exact⟨hl,.str _,H,I.tok _,⟨_,rfl⟩,q⟩
end L2
namespace Att
open PySem PySem.W PySem.Calls PyProof.Rows
theorem ints_of_wellAll{P:Params}{h:Heap}:∀(ns:List Int)(vs:List Value),WellAll P h vs (ns.map WData.int)->IntsAre vs ns:=by
 intro ns
 induction ns with
 |nil=>
  intro vs w
  rw[qio]at w
  cases w
  exact .nil
 |cons n ns ih=>
  intro vs w
  rw[qge]at w
  cases w with
  |cons a b=>
   cases a
   exact .cons _ _ (ih _ b)
end Att
namespace L2
open PySem PySem.Spec PyProof.Rows
theorem zor:∀{vs:List Value}{ns:List Int},IntsAre vs ns->Vals (ns.map V.int) vs
 |_,_,.nil=>.nil
 |_,_,.cons n t h=>.cons ⟨t,rfl⟩ (zor h)
def zax(s:Stmt)(j:Nat):Stmt:=match s with
 |.ClassDef _ _ _ body _ _ _ _ _ _ _=>body.getD j (.Pass ⟨0,0,0,0⟩)
 |_=>.Pass ⟨0,0,0,0⟩
def zbv(s:Stmt):Arguments:=match s with
 |.FunctionDef _ a _ _ _ _ _ _ _ _=>a
 |_=>{ posonlyargs:=[],args:=[],vararg:=none,kwonlyargs:=[],kw_defaults:=[],kwarg:=none,defaults:=[] }
def zbi(s:Stmt):List Stmt:=match s with
 |.FunctionDef _ _ b _ _ _ _ _ _ _=>b
 |_=>[]
def zag(s:Stmt):Scope:=match s with
 |.FunctionDef _ _ _ _ _ _ sc _ _ _=>sc
 |_=>{ kind:=.function,names:=[],isGenerator:=false,isCoroutine:=false }
structure Fun(K:qfa)(x qual:Str)(st:Stmt)(f:Addr)(fd:FuncData):Prop where
 ex:∃(oc:Value)(od:Option Addr)(kV doc pm:Value)(an:Option Addr)(cdv ct:Value)(osl:Array (Option Value)),
  fd=qgo x qual (zbv st) (zbi st) (zag st) .none kV doc pm an cdv ct/\K.lookup f=some ⟨oc,od,.func fd,osl⟩/\qhg K cdv qual=true
 kp:qgp K (.ref f)=true
section
variable{P:Program}{w:World}{K:qfa}{mg:Str->Option Value}{base:Heap}
theorem Fun.binds{x qual:Str}{st:Stmt}{f:Addr}{fd:FuncData}{ps:List Str}(F:Fun K x qual st f fd)(h:∀(kV doc pm:Value) (an:Option Addr) (cdv ct:Value) (us:List Value),us.length=ps.length->bindArgs (qgo x qual (zbv st) (zbi st) (zag st) .none kV doc pm an cdv ct) ⟨us,[]⟩=pure (ps.zip us)):Binds K fd ps []:=by
 obtain⟨oc,od,kV,doc,pm,an,cdv,ct,osl,rfl,lk,hcd⟩:=F.ex
 exact .all (h kV doc pm an cdv ct)
theorem zgm{x qual:Str}{st:Stmt}{f:Addr}{oc:Value}{od an:Option Addr}{osl:Array (Option Value)}{kV doc pm cdv ct:Value}(l:K.lookup f=some ⟨oc,od,.func (qgo x qual (zbv st) (zbi st) (zag st) .none kV doc pm an cdv ct),osl⟩)(c:qhg K cdv qual=true)(k:qgp K (.ref f)=true):Fun K x qual st f (qgo x qual (zbv st) (zbi st) (zag st) .none kV doc pm an cdv ct):=⟨⟨oc,od,kV,doc,pm,an,cdv,ct,osl,rfl,l,c⟩,k⟩
end
theorem zpy{A:Around}{k:Nat}(hr:Room k A):A.units+1<cLine:=Nat.lt_of_le_of_lt (Nat.add_le_add_left (by decide:1<=64) _) hr.units
section
variable{X:Cx}
theorem pv(i:Nat){x:Str}{pos:Pos}(hN:X.N[i]?=some x:=by rfl)(hv:Vis X.env.scope x:=by first|exact Or.inl rfl|exact Or.inr (Or.inl rfl)|exact Or.inr (Or.inr rfl))(hd:(x == ("__debug__":Str))=false:=by decide)(hcd:(x == ("__classdict__":Str))=false:=by decide):PE X (.Name x pos) (tVar i):=qca hN hv hd hcd
end
theorem zb3{c A B:Prop}[Decidable c](h1:c->A)(h2:¬c->B):if c then A else B:=by
 by_cases h:c
 ·rw[if_pos h]
  exact h1 h
 ·rw[if_neg h]
  exact h2 h
def Same(H H':Hp):Prop:=∀b o,H b=some o->H' b=some o
theorem Same.refl(H:Hp):Same H H:=λ_ _ h=>h
theorem Same.trans{H H1 H2:Hp}(a:Same H H1)(b:Same H1 H2):Same H H2:=λc o h=>b c o (a c o h)
theorem Same.free{H H':Hp}(e:Same H H'){l:Addr}(h:H' l=Option.none):H l=Option.none:=by
 cases q:H l with
 |none=>rfl
 |some o=>
  rw[e l o q]at h
  cases h
theorem Same.seq{K:qfa}{H H':Hp}{a:Addr}{xs:List V}(e:Same H H')(h:SqL K H a xs):SqL K H' a xs:=by
 rcases h with (h|⟨o,h⟩)|h
 ·exact .inl (.inl (e _ _ h))
 ·exact .inl (.inr ⟨o,e _ _ h⟩)
 ·exact .inr h
theorem at_of{xs:List V}{z:Int}{j:Nat}{v:V}(e:z=(j:Int))(h:xs[j]?=some v):atI xs z=some v:=by
 rw[e]
 exact zez h
open PySem PySem.Spec PyProof.Rows L3
def XAt(h:Heap)(e C dx:Addr)(T:Option Addr):Prop:=∃oe vs,h.get? e=some oe/\oe.cls=.ref C/\oe.dict=some dx/\oe.data=.fields vs/\Trc h e vs T
theorem Gone.un{fs:List Addr}{e:Addr}{oe:Obj}{T:Option Addr}{h h':Heap}{H:Hp}(he:∃o,h.get? e=some o)(g:Gone fs e oe T h h'):Un fs (e::T.toList) H H h h' where
 keep:=λb o q _ hf hx=>g.keep b o (λz=>hx (by simp[z])) (λz=>hx (by simp[<-z])) hf q
 slot:=λb o q _ _ hx=>g.slot b o (λz=>hx (by simp[z])) (λz=>hx (by simp[<-z])) q
 free:=λ_ _ _ n _=>n
 there:=λb o q hx=>let ⟨sl,z⟩:=g.slot b o (λz=>hx (by simp[z])) (λz=>hx (by simp[<-z])) q;⟨_,z⟩
 tups:=λ_ _ q=>q
 frzs:=λ_ _ _ q=>q
 tbls:=λb ps q=>⟨#[],by rw[q];simp⟩
theorem qbn{P:Program}{w:World}{fs:List Addr}{e:Addr}{oe:Obj}{T:Option Addr}{h h':Heap}{H:Hp}(ok:HOk P w H h)(g:Gone fs e oe T h h')(he:H e=none)(hT:∀T',T=some T'->H T'=none)(hf:∀b∈fs,H b=none):HOk P w H h':=λa o q=>by
 have ne:∀b u,H b=some u->b≠e/\some b≠T/\b ∉ fs:=λb u z=>⟨(λy=>by rw[y,he]at z;cases z),(λy=>by rw[hT b y.symm]at z;cases z),(λy=>by rw[hf b y]at z;cases z)⟩
 refine (ok a o q).stay (λb u hb z=>?_) (λ_ z=>z) λ_ _ z=>z
 rcases hb with rfl|hb
 ·obtain⟨h1,h2,h3⟩:=ne _ _ q
  exact g.keep _ _ h1 h2 h3 z
 ·obtain⟨h1,h2,h3⟩:=ne _ _ hb
  exact g.keep _ _ h1 h2 h3 z
theorem Gone.xat{fs:List Addr}{e C dx:Addr}{oe:Obj}{vs:Array Value}{T:Option Addr}{h h':Heap}(hc:oe.cls=.ref C)(hx:oe.dict=some dx)(hd:oe.data=.fields vs)(tr:Trc h e vs T)(g:Gone fs e oe T h h') :
  ∃T',XAt h' e C dx (some T')/\(h.objs.size<=T'\/T=some T'):=by
 obtain⟨T',a,b,c,oT,ts,fl,d⟩:=g.exc
 have hsz:1<vs.size:=by
  cases T with
  |none=>exact (qg3.mp (show vs[1]?=some .none from tr)).1
  |some T=>exact (qg3.mp tr.1).1
 obtain⟨oc,od,oda,osl⟩:=oe
 dsimp only at hc hx hd
 subst hc hx hd
 exact⟨T',⟨_,_,a,rfl,rfl,rfl,by simp[hsz],c,oT,ts,fl,d⟩,b⟩
structure FpN(X:Cx)(pins:List (Addr×Obj))(H:Hp)(b:Addr):Prop where
 ok:zon X pins H b
 new:X.s₀.heap.objs.size<=b
theorem Inv.fpN{X:Cx}{pins:List (Addr×Obj)}{σ:St}{H H':Hp}{s:Shared}{b:Addr}(I:Inv X pins σ H s)(hb:s.heap.objs.size<=b)(hn:H' b=none):FpN X pins H' b:=⟨I.fpOk hb hn,qgn I.sz hb⟩
section
variable{X:Cx}{pins:List (Addr×Obj)}{σ:St}{H:Hp}{s:Shared}
theorem ztv{e:Addr}{oe:Obj}{T:Option Addr}{h':Heap}(I:Inv X pins σ H s)(g:Gone (frs X.stack) e oe T s.heap h')(ho:s.heap.get? e=some oe)(fe:FpN X pins H e)(fT:∀T',T=some T'->FpN X pins H T') :
  Inv X pins σ H { s with heap:=h' }:=by
 refine I.call' (s':={ s with heap:=h' }) (ch:=e::T.toList) rfl (Gone.un ⟨_,ho⟩ g) (qbn I.hok g fe.ok.1 (λT' z=>(fT T' z).ok.1) I.stkFree) I.bare λb hb=>?_
 have fb:FpN X pins H b:=by
  rcases qfo.mp hb with rfl|hb
  ·exact fe
  ·exact fT b (by simpa using hb)
 exact⟨fb.ok.2.2.2.1,fb.ok.2.1,fb.ok.2.2.2.2.1,fb.ok.2.2.2.2.2⟩
def zcb(X:Cx)(E:XK):Prop:=∀(pins:List (Addr×Obj))(σ:St)(H:Hp)(s:Shared)(e C dx:Addr)(T:Option Addr),Inv X pins σ H s->XAt s.heap e C dx T->FpN X pins H e->(∀T',T=some T'->FpN X pins H T') ->
 E (.ref C) (some dx) H->X.xe (.ref e) s
theorem zrm{env env₀:Env}{e C dx:Addr}{T:Option Addr}{L:Addr}{E:Value->Shared->Prop}{Q:Unit->Shared->Prop}(I:Inv X pins σ H s)(xa:XAt s.heap e C dx T)(fe:FpN X pins H e)(fT:∀T',T=some T'->FpN X pins H T'){outer:List Env}(hst:X.stack=env₀::outer)(hf₀:env₀.frame=some L)(hf:env.frame=some L)(h:∀h' T',Inv X pins σ H { s with heap:=h' }->XAt h' e C dx (some T')->FpN X pins H T'->Q () { s with heap:=h' }):wpAny (model X.prog X.w) X.A (noteFrame (.ref e) env) Q E s:=by
 obtain⟨oe,vs,ho,hc,hx,hd,tr⟩:=xa
 refine noteX (outer:=outer) (env₀:=env₀) (base:=X.base) (by rw[I.ok.frames,hst]) (by rw[<-hst];exact I.stack) hf₀ hf ho hd tr λh' g=>?_
 have g':Gone (frs X.stack) e oe T s.heap h':=by rw[hst];exact g
 obtain⟨T',xa',hT'⟩:=Gone.xat hc hx hd tr g
 refine h h' T' (ztv I g' ho fe fT) xa' ?_
 rcases hT' with z|z
 ·exact I.fpN z (I.hok.fresh z)
 ·exact fT T' z
theorem zh2{e C dx T:Addr}{f:Option Addr}{E:Value->Shared->Prop}{Q:Unit->Shared->Prop}{A:Around}(I:Inv X pins σ H s)(xa:XAt s.heap e C dx (some T))(fe:FpN X pins H e)(fT:FpN X pins H T)(h:∀h' T',Inv X pins σ H { s with heap:=h' }->XAt h' e C dx (some T')->FpN X pins H T'->Q () { s with heap:=h' }):wpAny (model X.prog X.w) A (setFlight (.ref e) f) Q E s:=by
 obtain⟨oe,vs,ho,hc,hx,hd,tr⟩:=xa
 have fT':∀T',some T=some T'->FpN X pins H T':=λT' z=>by cases z;exact fT
 refine qeu (fs:=frs X.stack) ho hd tr λh' g=>?_
 obtain⟨T',xa',hT'⟩:=Gone.xat hc hx hd tr g
 refine h h' T' (ztv I g ho fe fT') xa' ?_
 rcases hT' with z|z
 ·exact I.fpN z (I.hok.fresh z)
 ·exact fT' T' z
end
def CX1(P:Program)(w:World):CXT:=λouter H s E ev s'=>∃(e C dx T:Addr)(H':Hp),ev=.ref e/\s'.os=s.os/\AllBare s'.gens/\Un (frs outer) [] H H' s.heap s'.heap/\HOk P w H' s'.heap/\XAt s'.heap e C dx (some T) ∧
 (s.heap.objs.size<=e/\H' e=none)/\(s.heap.objs.size<=T/\H' T=none)/\E (.ref C) (some dx) H'
theorem zc8{X:Cx}{E:XK}(t:zcb X E):zub (CX1 X.prog X.w) X E:=by
 rintro pins σ H s ev s' I ⟨e,C,dx,T,H',rfl,os,bare,un,hok,xa,⟨h1,h2⟩,⟨h3,h4⟩,hE⟩
 exact t pins σ H' s' e C dx (some T) (I.call' (ch:=[]) os un hok bare λb hb=>nomatch hb) xa (I.fpN h1 h2) (λT' z=>by cases z;exact I.fpN h3 h4) hE
theorem zab{P:Program}{w:World}{K:qfa}{mg:Str->Option Value}{base:Heap}{N:List Str}{qual:Str}{scope:Scope}{f:Addr}{cd:Value}{A:Around}{outer:List Env}{s₀:Shared}{H₀:Hp}{E:XK} :
  zcb (zvm (CX1 P w) P w K mg base N qual scope f cd A outer s₀ H₀ E) E:=by
 intro pins σ H s e C dx T I xa fe fT hE
 show wpAny (model P w) _ (leaving _ (.ref e)) _ _ s
 unfold leaving
 refine wpAny_bind (zrm I xa fe fT (env₀:=envOfC qual scope s₀.heap.objs.size f cd) rfl rfl rfl λh1 T1 I1 xa1 fT1=>?_)
 refine zh2 I1 xa1 fe fT1 λh2 T2 I2 xa2 fT2=>?_
 refine⟨e,C,dx,T2,H,rfl,I2.os,I2.bare,I2.base,I2.hok,xa2,⟨fe.new,fe.ok.1⟩,⟨fT2.new,fT2.ok.1⟩,hE⟩
theorem zbk{P:Program}{w:World}{K:qfa}{mg:Str->Option Value}{base:Heap}{N:List Str}{qual:Str}{scope:Scope}{f:Addr}{cd:Value}{A:Around}{outer:List Env}{s₀:Shared}{H₀:Hp}{E:XK} :
  PassesOwn (model P w) (zvm (CX1 P w) P w K mg base N qual scope f cd A outer s₀ H₀ E).A (zvm (CX1 P w) P w K mg base N qual scope f cd A outer s₀ H₀ E).env (zvm (CX1 P w) P w K mg base N qual scope f cd A outer s₀ H₀ E).xe:=PassesOwn.leaving
theorem Fun.okX{P:Program}{w:World}{K:qfa}{mg:Str->Option Value}{base:Heap}{x qual:Str}{st:Stmt}{f:Addr}{fd:FuncData}{N ps:List Str}{k:Nat}{sp:Sp}(F:Fun K x qual st f fd)(S:zak N ps (zag st))(len:∀vs H Q E,sp vs H Q E->vs.length=ps.length)(hbody:∀(cdv:Value) (A:Around) (outer:List Env) (s:Shared) (H:Hp) (vs:List V) (Q:VK) (E:XK),Room k (A.deeper (envOfC qual (zag st) s.heap.objs.size f cdv))->sp vs H Q E ->
   ∃t,PSs (zvm (CX1 P w) P w K mg base N qual (zag st) f cdv A outer s H E) (zbi st) t/\t { nx:=λ_ H'=>Q .non H',rt:=Q } (zib N vs) H):FnOk P w K mg base (CX1 P w) (k+1) f fd ps sp:=by
 obtain⟨oc,od,kV,doc,pm,an,cdv,ct,osl,rfl,lk,hcd⟩:=F.ex
 exact fn_of lk hcd S len λA outer s H vs Q E hr hsp=>hbody cdv A outer s H vs Q E hr hsp
open PySem PySem.Spec PyProof.Rows L3 PySem.Builtin PySem.Builtin.ObjectAttr
structure zvv(K:qfa)(C R:Addr):Prop where
 cls:∃nm q N bs sn sub ab col dd k0 k1 k2 k3 k5,K.lookup C=some (clsX nm q C R N bs sn sub ab col dd k0 k1 k2 k3 k5)
 sa:qfp K (.ref C) "__setattr__"=some (some (.builtin "object.__setattr__"))
 ga:qfp K (.ref C) "__getattribute__"=some (some (.builtin "BaseException.__getattribute__"))
 gh:qfp K (.ref C) "__getattr__"=some none
 nn:qfp K (.ref C) "number"=some none
 na:qfp K (.ref C) "at"=some none
 kp:qgp K (.ref C)=true
def zzw(C x:Addr):HO:=.ext λh=>∃t,h.get? x=some (zl1 C t)
def xob(C dx x:Addr):HO:=.ext λh=>∃t,h.get? x=some { zl1 C t with dict:=some dx }
def xdo(dx:Addr)(fs:List (Str×V)):HO:=.ext λh=>∃mA,h.Ns1 dx mA/\∀f,RelO (fs.lookup f) (mA f)
section
variable{P:Program}{w:World}{H:Hp}{h:Heap}{C x dx:Addr}{fs:List (Str×V)}
theorem qcs(e:∃t,h.get? x=some (zl1 C t)):ObjOk P w H h x (zzw C x):=
 ⟨e,let ⟨t,q⟩:=e;⟨_,q⟩,λh1 h2 ⟨t,q⟩ k=>⟨t,k _ q⟩⟩
theorem xob_mk(e:∃t,h.get? x=some { zl1 C t with dict:=some dx }):ObjOk P w H h x (xob C dx x):=
 ⟨e,let ⟨t,q⟩:=e;⟨_,q⟩,λh1 h2 ⟨t,q⟩ k=>⟨t,k _ q⟩⟩
theorem zv3(e:∃mA,h.Ns1 dx mA/\∀f,RelO (fs.lookup f) (mA f)):ObjOk P w H h dx (xdo dx fs):=
 ⟨e,let ⟨mA,⟨o,es,ep,ho,_⟩,_⟩:=e;⟨_,ho⟩,λh1 h2 ⟨mA,⟨o,es,ep,ho,r⟩,q⟩ k=>⟨mA,⟨o,es,ep,k _ ho,r⟩,q⟩⟩
theorem zur{mA:Str->Option Value}(r:∀f,RelO (fs.lookup f) (mA f)):PySem.Within mA (fs.map (·.1)):=λf hf=>by
 cases e:fs.lookup f with
 |none=>exact absurd (RelO.none_of (by rw[<-e];exact r f)) hf
 |some v=>exact qf0.mpr ⟨(f,v),PySem.mem_of_lookup e,rfl⟩
theorem zwy{mA:Str->Option Value}{f:Str}{y:V}{u:Value}(ry:RelV y u)(r:∀f,RelO (fs.lookup f) (mA f)):∀g,RelO ((zmz f y fs).lookup g) (if g=f then some u else mA g):=λg=>by
 rw[zg0]
 by_cases q:g=f
 ·rw[if_pos q,if_pos q];exact ry
 ·rw[if_neg q,if_neg q];exact r g
end
section
variable{prog:Program}{w:World}{A:Around}{s:Shared}{K:qfa}{x C R:Addr}{R':Result->Shared->Prop}
theorem osaX{ox:Obj}{od:Option Obj}{name:Str}{tk:Tok}{v:Value}(X:K.In s.heap)(I:PySem.W.InstAt s.heap x ox C od)(c:zvv K C R)(ht:NoAttr K C name)(h:∀b,wpAny (model prog w) A.in1 (storeInOwnDict (.ref x) (.ref C) (.str name tk) name v b)
   (λfin s'=>match fin with|.done f=>R' (.ok f) s'|.again c'=>c'.quiet=true/\codeAny (model prog w) A c' R' s') (λe s'=>R' (.error e) s') s) :
  codeAny (model prog w) A (.call (.builtin "object.__setattr__") ⟨[.ref x,.str name tk,v],[]⟩) R' s:=by
 have SF:=PySem.F.store_object
 have SE:=PySem.F.store_Exception
 obtain⟨nm,q,N,bs,sn,sub,ab,col,dd,k0,k1,k2,k3,k5,lk⟩:=c.cls
 have hc:qhq K C=some { name:=nm,bases:=bs,mro:=.ref C::.ref R::bmE,ns:=N,qualname:=q,hasDict:=true,slotNames:=sn,subclasses:=sub,abstract:=ab,collection:=col,hasDel:=false }:=by
  unfold qhq;rw[lk]
 have sub:PySem.W.Looks (model prog w) s.heap (isInstance (.ref x) (.type "object")) true:=I.type.andThen (qkk X (by unfold PySem.W.mroIn;rw[hc,qf3];rfl))
 refine codeAny_call_builtin SF.slot.plain SF.entry (@PySem.W.check_slot (model prog w) _ _ s "object.__setattr__" "object" "__setattr__" (.ref x) [.str name tk,v] [] _ SF.kind SF.split sub (SF.args (.ref x) (.str name tk) v) ?_)
 have hm:PySem.W.Looks (model prog w) s.heap (mroOf (.ref C)) (.ref C::.ref R::bmE):=(qil X hc).andThen .now
 rw[PySem.W.osa_eq,refuse_eq]
 refine wpAny_bind (wpAny_bind (I.type.here (wpAny_bind (hm.here ?_))))
 have pp:refuseLoop (.ref x) "__setattr__" bmE=pure ():=SE.passes _
 rw[refuseLoop_ref,refuseLoop_ref,pp]
 refine wpAny_pure (wpAny_bind (I.type.here (wpAny_bind ((qh9 X ht).here (wpAny_bind (wpAny_pure ?_))))))
 exact h _
theorem getX{ox:Obj}{od:Option Obj}{name:Str}{v:Value}{expr:Bool}{Q:Value->Shared->Prop}{E:Value->Shared->Prop}(X:K.In s.heap)(I:PySem.W.InstAt s.heap x ox C od)(c:zvv K C R)(hf:PySem.W.findObj K C od name=some (.value v))(hh:qjx v=true)(h:Q v { s with toks:=s.toks+1 }):wpAny (model prog w) A (getAttr (.ref x) name expr) Q E s:=by
 have FB:=PySem.F.attr_Exception
 obtain⟨nm,q,N,bs,sn,sub,ab,col,dd,k0,k1,k2,k3,k5,lk⟩:=c.cls
 have hc:qhq K C=some { name:=nm,bases:=bs,mro:=.ref C::.ref R::bmE,ns:=N,qualname:=q,hasDict:=true,slotNames:=sn,subclasses:=sub,abstract:=ab,collection:=col,hasDel:=false }:=by
  unfold qhq;rw[lk]
 have f3:=FB.ga.bind (.ref x)
 have hx0:(expr && onTheHeap (Value.builtin "BaseException.__getattribute__"))=false:=by cases expr <;> rfl
 have hx2:(Value.builtin "BaseException.__getattribute__" == Value.builtin "object.__getattribute__")=false:=by decide +kernel
 have hx1:(onTheHeap (Value.ref C) && Value.builtin "BaseException.__getattribute__" == Value.builtin "object.__getattribute__")=false:=by rw[hx2];rfl
 have hk:builtinKind "BaseException.__getattribute__"=some .slot:=by decide +kernel
 have hsplit:splitId "BaseException.__getattribute__"=some ("BaseException","__getattribute__"):=by decide +kernel
 obtain⟨hp,g,d,tk,os⟩:=s
 have L0:=I.type (M:=model prog w)
 have L1:=qh9 (M:=model prog w) X c.ga
 have L2:PySem.W.Looks (model prog w) hp (hookBefore (.ref C)) none:=PySem.W.looks_hook X (by exact c.gh)
 have L3:=PySem.W.looks_find (M:=model prog w) X I hf
 have sub:PySem.W.Looks (model prog w) hp (isInstance (.ref x) (.type "BaseException")) true:=I.type.andThen (qkk X (by unfold PySem.W.mroIn;rw[hc,qf3];rfl))
 unfold getAttr getAttrBy
 refine wpAny_bind (wpAny_mkText (wpAny_holding (wpAny_bind (L0.at (wpAny_bind (L1.at ?_))))))
 show wpAny _ _ (if (onTheHeap (Value.ref C) && Value.builtin "BaseException.__getattribute__" == Value.builtin "object.__getattribute__")=true then _ else _) _ _ _
 rw[hx1,if_neg (by decide)]
 unfold getAttrByItsOwn
 refine wpAny_bind (L2.at (wpAny_bind (wpAny_attempt (wpAny_holding ?_))))
 unfold callGetattribute
 rw[hx0,if_neg (by decide)]
 unfold boundAndCalled
 rw[f3]
 refine wpAny_bind (wpAny_pure (wpAny_call ?_))
 refine codeAny_call_builtin FB.ga.plain PySem.F.entry_bexc_ga (@PySem.W.check_slot (model prog w) _ _ ⟨hp,g,d,tk+1,os⟩ "BaseException.__getattribute__" "BaseException" "__getattribute__" (.ref x) [.str name tk] [] _ hk hsplit sub (PySem.F.args_bexc_ga (.ref x) (.str name tk)) ?_)
 refine wpAny_bind (wpAny_pure (wpAny_bind (wpAny_pure (wpAny_bind (L0.at (wpAny_bind (L3.at ?_)))))))
 refine wpAny_pure ?_
 show wpAny _ _ (handedOut v) _ _ _
 rw[PySem.W.handedOut_of hh]
 exact wpAny_pure h
theorem setX0{t:Addr}{name:Str}{v:Value}{Q:Unit->Shared->Prop}{E:Value->Shared->Prop}(X:K.In s.heap)(hx:s.heap.get? x=some (zl1 C t))(c:zvv K C R)(ht:NoAttr K C name)(h:∀(h1 h':Heap),h1.get? x=some { zl1 C t with dict:=some s.heap.objs.size }->(∀b o,b≠x->(s.heap.push { cls:=.type "dict",data:=.dict #[] }).get? b=some o->h1.get? b=some o)->h1.objs.size=s.heap.objs.size+1 ->
   h'.Ns1 s.heap.objs.size (λy=>if y=name then some v else none)->Heap.SameBut s.heap.objs.size h1 h'->Q () { s with heap:=h',toks:=s.toks+2 }) :
  wpAny (model prog w) A (setAttr (.ref x) name v) Q E s:=by
 have I:PySem.W.InstAt s.heap x (zl1 C t) C none:=⟨hx,rfl,rfl,trivial⟩
 obtain⟨nm,q,N,bs,sn,sub,ab,col,dd,k0,k1,k2,k3,k5,lk⟩:=id c.cls
 have hc:qhq K C=some { name:=nm,bases:=bs,mro:=.ref C::.ref R::bmE,ns:=N,qualname:=q,hasDict:=true,slotNames:=sn,subclasses:=sub,abstract:=ab,collection:=col,hasDel:=false }:=by
  unfold qhq;rw[lk]
 refine qjo X I c.sa (osaX (s:={ s with toks:=s.toks+1 }) X I c ht λb=>?_)
 have hxs:x≠s.heap.objs.size:=qf6 (Heap.lt_size hx)
 have hx₁:(s.heap.push { cls:=.type "dict",data:=.dict #[] }).get? x=some (zl1 C t):=Heap.get?_push_of_some _ hx
 refine wpAny_bind (wpAny_pure (wpAny_bind (wpAny_bind (wpAny_loadPart hx (wpAny_bind (PySem.W.Looks.here (s:={ s with toks:=s.toks+1 }) (qil X hc) ?_))))))
 refine wpAny_bind (wpAny_alloc' ?_)
 refine wpAny_bind (wpAny_update' hx₁ ?_)
 refine wpAny_pure ?_
 generalize hh1:((s.heap.push { cls:=.type "dict",data:=.dict #[] }).update x λo=>{ cls:=o.cls,dict:=some s.heap.objs.size,data:=o.data,slots:=o.slots })=h1
 have g1:h1.get? s.heap.objs.size=some { cls:=.type "dict",data:=.dict #[] }:=by
  rw[<-hh1];exact (Heap.get?_update_ne _ _ _ _ hxs.symm).trans (Heap.get?_push_at rfl rfl)
 have g2:h1.get? x=some { zl1 C t with dict:=some s.heap.objs.size }:=by
  rw[<-hh1];exact Heap.get?_update_self _ hx₁ rfl
 have nd:h1.Ns s.heap.objs.size (λ_=>none):=⟨_,#[],_,g1,rfl,λe he=>absurd he (by simp),λ_=>rfl⟩
 show wpAny _ _ (storeInDict s.heap.objs.size (.str name _) name v) _ _ _
 unfold storeInDict newKeyGuard
 refine wpAny_bind (wpAny_pure (wpAny_bind (wpAny_nsSet1 (Heap.Ns1.of_empty nd) λh' hn' hs=>?_)))
 obtain⟨oD,esD,epD,hoD,hdD,hcD⟩:=hn'.count (Within.cons name v Within.nil)
 refine wpAny_bind (wpAny_lookBehind hoD (by rw[hdD];exact pastItsLine_dict (qgn hcD (by rw[qfd,qf5,sizeLine_eq];lia))) ?_)
 exact wpAny_pure (h h1 h' g2 (λb o hb q=>by rw[<-hh1];exact (Heap.get?_update_ne _ _ _ _ hb).trans q) (by rw[<-hh1,Heap.size_update,Heap.size_push]) hn' hs)
theorem setX1{t dx:Addr}{name:Str}{v:Value}{mA:Str->Option Value}{ns:List Str}{Q:Unit->Shared->Prop}{E:Value->Shared->Prop}(X:K.In s.heap)(hx:s.heap.get? x=some { zl1 C t with dict:=some dx })(hn:s.heap.Ns1 dx mA)(c:zvv K C R)(ht:NoAttr K C name)(hw:PySem.Within mA ns)(hsz:ns.length<=1000)(h:∀h',h'.Ns1 dx (λy=>if y=name then some v else mA y)->Heap.SameBut dx s.heap h'->Q () { s with heap:=h',toks:=s.toks+2 }) :
  wpAny (model prog w) A (setAttr (.ref x) name v) Q E s:=by
 obtain⟨od,ho,hl⟩:=zk3 hn
 have I:PySem.W.InstAt s.heap x { zl1 C t with dict:=some dx } C (some od):=⟨hx,rfl,rfl,ho⟩
 obtain⟨nm,q,N,bs,sn,sub,ab,col,dd,k0,k1,k2,k3,k5,lk⟩:=id c.cls
 have hc:qhq K C=some { name:=nm,bases:=bs,mro:=.ref C::.ref R::bmE,ns:=N,qualname:=q,hasDict:=true,slotNames:=sn,subclasses:=sub,abstract:=ab,collection:=col,hasDel:=false }:=by
  unfold qhq;rw[lk]
 refine qjo X I c.sa (osaX (s:={ s with toks:=s.toks+1 }) X I c ht λb=>?_)
 refine wpAny_bind (wpAny_pure (wpAny_bind (wpAny_bind (wpAny_loadPart hx (wpAny_bind (PySem.W.Looks.here (s:={ s with toks:=s.toks+1 }) (qil X hc) ?_))))))
 refine wpAny_pure (a:=some dx) (wpAny_bind (wpAny_pure (wpAny_bind ?_)))
 refine wpAny_nsSet1 (s:={ s with toks:=s.toks+1 }) hn λh' hn2 hs2=>?_
 obtain⟨oD,esD,epD,hoD,hdD,hcD⟩:=hn2.count (PySem.Within.cons name v hw)
 refine wpAny_bind (wpAny_lookBehind hoD (by rw[hdD];exact pastItsLine_dict (qgn hcD (by rw[qfd,sizeLine_eq];lia))) ?_)
 exact wpAny_pure (h _ hn2 hs2)
end
section
variable{X:Cx}{o e value:Expr}{f:Str}{pos pos' tpos:Pos}{ta tv:TE}
def sX0(K:qfa)(ta tv:TE)(f:Str):TS:=λD σ H=>tv σ H λy H1=>ta σ H1 λx H2=>∃a C R,x=.ref a/\H2 a=some (zzw C a)/\zvv K C R/\NoAttr K C f ∧
 ∀dx,H2 dx=none->dx≠a->D.nx σ (upd (upd (upd H2 dx (xdo dx [])) a (xob C dx a)) dx (xdo dx [(f,y)]))
def sX1(K:qfa)(ta tv:TE)(f:Str):TS:=λD σ H=>tv σ H λy H1=>ta σ H1 λx H2=>∃a C R dx fs,x=.ref a/\H2 a=some (xob C dx a)/\H2 dx=some (xdo dx fs)/\dx≠a/\zvv K C R/\NoAttr K C f/\fs.length<=1000 ∧
 D.nx σ (upd H2 dx (xdo dx (zmz f y fs)))
theorem qak(ha:PE X o ta)(hv:PE X value tv)(hs:swapsWith value (some (.Attribute o f pos')) pos.line X.env=pure false):PS X (.Assign [.Attribute o f pos'] value pos) (sX0 X.K ta tv f):=by
 intro pins s σ H D I h
 refine plainObj_wpAny_Assign_Attribute (thn (hv pins s σ H _ I h) λu s1 ⟨y,H1,I1,ry,q⟩=>thn (ha pins s1 σ H1 _ I1 q) λov s2 ⟨x,H2,I2,rx,a,C,R,ex,ea,c,n,q2⟩=>?_) hs
 subst ex
 obtain rfl:ov=Value.ref a:=rx
 obtain⟨⟨t,hx⟩,_,_⟩:=I2.hok a _ ea
 refine setX0 I2.kIn hx c n λh1 h' g1 k1 z1 hn sb=>?_
 have hxs:a≠s2.heap.objs.size:=qf6 (Heap.lt_size hx)
 have e1:(s2.heap.push { cls:=.type "dict",data:=.dict #[] }).get? s2.heap.objs.size=some { cls:=.type "dict",data:=.dict #[] }:=Heap.get?_push_size s2.heap rfl
 have e3:(s2.heap.push { cls:=.type "dict",data:=.dict #[] }).Ns s2.heap.objs.size (λ_=>none):=⟨_,#[],_,e1,rfl,(λe he=>absurd he (by simp)),λ_=>rfl⟩
 have J1:=I2.laid (a:=s2.heap.objs.size) (o:=xdo s2.heap.objs.size []) (h':=s2.heap.push { cls:=.type "dict",data:=.dict #[] }) (t':=s2.toks) (λb u q=>Heap.get?_push_of_some _ q) (qfh _) (zv3 ⟨_,Heap.Ns1.of_empty e3,λ_=>True.intro⟩)
 have ea1:(upd H2 s2.heap.objs.size (xdo s2.heap.objs.size [])) a=some (zzw C a):=by rw[zai hxs];exact ea
 have J2:=J1.write (x:=a) (e:=a) (o:=xob C s2.heap.objs.size a) (h':=h1) (t':=s2.toks) (by rw[ea1];exact True.intro) (.inl rfl) (λb u hb q=>k1 b u hb q) ⟨_,g1⟩ (xob_mk ⟨t,g1⟩)
 have g3:h1.get? s2.heap.objs.size=some { cls:=.type "dict",data:=.dict #[] }:=k1 _ _ hxs.symm e1
 have J3:=J2.write (x:=s2.heap.objs.size) (e:=s2.heap.objs.size) (o:=xdo s2.heap.objs.size [(f,y)]) (h':=h') (t':=s2.toks+2) (by rw[zai hxs.symm,zac];exact True.intro) (.inl rfl) (λb u hb q=>(sb.2 b hb).trans q)
  (let ⟨o,_,_,ho,_⟩:=hn;⟨o,ho⟩) (zv3 ⟨_,hn,λg=>by
   have:=zwy (f:=f) (fs:=[]) ry (mA:=λ_=>none) (λ_=>True.intro) g
   exact this⟩)
 exact⟨σ,_,J3,q2 _ (I2.hok.fresh (qfh _)) hxs.symm⟩
theorem qaj(ha:PE X o ta)(hv:PE X value tv)(hs:swapsWith value (some (.Attribute o f pos')) pos.line X.env=pure false):PS X (.Assign [.Attribute o f pos'] value pos) (sX1 X.K ta tv f):=by
 intro pins s σ H D I h
 refine plainObj_wpAny_Assign_Attribute (thn (hv pins s σ H _ I h) λu s1 ⟨y,H1,I1,ry,q⟩=>thn (ha pins s1 σ H1 _ I1 q) λov s2 ⟨x,H2,I2,rx,a,C,R,dx,fs,ex,ea,ed,ne,c,n,l,q2⟩=>?_) hs
 subst ex
 obtain rfl:ov=Value.ref a:=rx
 obtain⟨⟨t,hx⟩,_,_⟩:=I2.hok a _ ea
 obtain⟨⟨mA,hn,r⟩,_,_⟩:=I2.hok dx _ ed
 refine setX1 I2.kIn hx hn c n (zur r) (by rw[qe9];exact l) λh' hn' sb=>?_
 have J:=I2.write (x:=dx) (e:=dx) (o:=xdo dx (zmz f y fs)) (h':=h') (t':=s2.toks+2) (by rw[ed];exact True.intro) (.inl rfl) (λb u hb q=>(sb.2 b hb).trans q)
  (let ⟨o,_,_,ho,_⟩:=hn';⟨o,ho⟩) (zv3 ⟨_,hn',zwy ry r⟩)
 exact⟨σ,_,J,q2⟩
end
def del(H:Hp)(e:Addr):Hp:=λb=>if b=e then none else H b
theorem qbs{H:Hp}{e:Addr}:del H e e=none:=by unfold del;rw[if_pos rfl]
theorem zy1{H:Hp}{e b:Addr}(h:b≠e):del H e b=H b:=by unfold del;rw[if_neg h]
theorem Inv.del{X:Cx}{pins:List (Addr×Obj)}{σ:St}{H:Hp}{s:Shared}{e:Addr}{φ:Heap->Prop}(I:Inv X pins σ H s)(he:H e=some (.ext φ)):Inv X pins σ (L2.del H e) s:=by
 have no:∀b,H b=none->L2.del H e b=none:=λb z=>by unfold L2.del;split <;> first|rfl|exact z
 have yes:∀b u,H b=some u->(∀ψ,u≠.ext ψ)->L2.del H e b=some u:=λb u z n=>by
  rw[zy1 (λy=>by rw[y,he]at z;cases z;exact n φ rfl)];exact z
 refine⟨I.ok,I.os,I.bare,⟨I.base.keep,I.base.slot,λb o q n hx=>no b (I.base.free b o q n hx),I.base.there,λb xs q=>yes _ _ (I.base.tups b xs q) (λ_ z=>nomatch z),λb o u q=>yes _ _ (I.base.frzs b o u q) (λ_ z=>nomatch z),λb ps q=>?_⟩,
  I.loc,I.cell,no _ I.free,λx c q=>no _ (I.freeC x c q),λp hp=>?_,λb u q=>?_,I.len⟩
 ·obtain⟨m,z⟩:=I.base.tbls b ps q
  exact⟨m,yes _ _ z (λ_ z=>nomatch z)⟩
 ·obtain⟨h1,h2,h3⟩:=I.pin p hp
  exact⟨h1,no _ h2,h3⟩
 ·have q':H b=some u:=by
   unfold L2.del at q
   split at q
   ·cases q
   ·exact q
  exact (I.hok b u q').stay (λ_ _ _ z=>z) (λc z=>yes _ _ z (λ_ z=>nomatch z)) λc xs z=>yes _ _ z (λ_ z=>nomatch z)
section
variable{X:Cx}{k:Nat}{f C R:Addr}{fd:FuncData}{ps:List Str}{sp:Sp}{E:XK}{x:Str}{p pos:Pos}{e:Expr}{es:List Expr}{t:TA}
structure XMk(K:qfa)(C R f:Addr):Prop where
 cl:zvv K C R
 init:qfp K (.ref C) "__init__"=some (some (.ref f))
 fn:qin K (.ref f)=true
theorem zpc{pins:List (Addr×Obj)}{σ:St}{H:Hp}{s:Shared}{Q:Addr->Hp->Prop}{us:List Value}{vs:List V}(M:XMk X.K C R f)(F:FnOk X.prog X.w X.K X.mg X.base (CX1 X.prog X.w) k f fd ps sp)(hr:Room (k+1) X.A)(hb:Binds X.K fd ps [])(I:Inv X pins σ H s)(r:Vals vs us)(hz:us.length<=sizeLine)(h:∀x,H x=none->sp (.ref x::vs) (upd H x (zzw C x)) (λv H2=>v=.non/\Q x H2) (λ_ _ _=>False)) :
  wpAny (model X.prog X.w) X.A (call (.ref C) us) (λv s'=>∃x H2,v=.ref x/\s.heap.objs.size<=x/\Inv X pins σ H2 s'/\Q x H2) X.xe s:=by
 obtain⟨nm,q,N,bs,sn,sub,ab,col,dd,k0,k1,k2,k3,k5,lk⟩:=id M.cl.cls
 obtain⟨oI,hoI,hcI⟩:∃oI,X.K.lookup f=some oI/\oI.cls=.type "function":=by
  have z:=beq_iff_eq.mp M.fn
  exact qff.mp z
 have hq:=h (s.heap.objs.size+1) (I.hok.fresh (qkv _))
 obtain⟨hh,g,d,tk,os⟩:=s
 have J1:=I.kept (h':=hh.push { cls:=.type "tuple",data:=.seq us.toArray }) (t':=tk) (λb u z=>Heap.get?_push_of_some _ z)
 have ex:((hh.push { cls:=.type "tuple",data:=.seq us.toArray }).push (zl1 C hh.objs.size)).get? (hh.objs.size+1)=some (zl1 C hh.objs.size):=by
  have:=Heap.get?_push_size (hh.push { cls:=.type "tuple",data:=.seq us.toArray }) (o:=zl1 C hh.objs.size) rfl
  rwa [Heap.size_push]at this
 have J2:=J1.laid (a:=hh.objs.size+1) (o:=zzw C (hh.objs.size+1)) (h':=(hh.push { cls:=.type "tuple",data:=.seq us.toArray }).push (zl1 C hh.objs.size)) (t':=tk) (λb u z=>Heap.get?_push_of_some _ z) (qh2 (Heap.size_push _ _)) (qcs ⟨_,ex⟩)
 have r2:Vals (V.ref (hh.objs.size+1)::vs) (Value.ref (hh.objs.size+1)::us):=.cons rfl r
 have hl:(Value.ref (hh.objs.size+1)::us).length=ps.length:=by
  have e:=r2.length
  rw[F.len _ _ _ _ hq]at e
  exact e.symm
 refine callX (I.kIn _ _ lk) (qh9 I.kIn M.init) (I.kIn _ _ hoI) hcI hz ?_
 refine wpAny_call (codeAny_mono (F.run _ X.stack _ _ ⟨Value.ref (hh.objs.size+1)::us,[]⟩ (Value.ref (hh.objs.size+1)::us) _ _ _ (hr.make C us [])
  (J2.env0.make C us []) (by have z:=hb _ (Value.ref (hh.objs.size+1)::us) J2.kIn (by rw[qgb];exact hl);rwa [qgb]at z) r2 hq) λr s' hq'=>?_)
 cases r with
 |error e=>
  obtain⟨e,C,dx,T,H',_,_,_,_,_,_,_,_,hE⟩:=hq'
  exact hE.elim
 |ok fl=>
  cases fl with
  |ret u=>
   obtain⟨v,H',I3,rv,ev,q3⟩:=J2.after hq'
   subst ev
   exact⟨rv,hh.objs.size+1,H',rfl,qkv _,I3,q3⟩
  |next=>exact False.elim hq'
  |brk=>exact False.elim hq'
  |cont=>exact False.elim hq'
def qcx(K:qfa)(C:Addr)(sp:Sp)(E:XK)(t:TA):TS:=λD σ H=>t σ H λvs H1=>vs.length<=sizeLine/\∀x,H1 x=none ->
 sp (.ref x::vs) (upd H1 x (zzw C x)) (λv H2=>v=.non/\∃dx,H2 x=some (xob C dx x)/\E (.ref C) (some dx) (del H2 x)) (λ_ _ _=>False)
theorem zmy{pins:List (Addr×Obj)}{σ:St}{H:Hp}{s:Shared}{env:Env}{xs:Sem Value}{Q:Flow->Shared->Prop}(M:XMk X.K C R f)(th:zcb X E)(hh:X.A.handled=none)(I:Inv X pins σ H s)(h:wpAny (model X.prog X.w) X.A xs (λv s'=>∃x H2 s1,v=.ref x/\X.s₀.heap.objs.size<=x/\(∀p∈X.pn++pins,p.1≠x)/\(∀y c,X.env.cells.lookup y=some c->c≠x)/\s1=s'/\Inv X pins σ H2 s'/\∃dx,H2 x=some (xob C dx x)/\E (.ref C) (some dx) (del H2 x)) X.xe s) :
  wpAny (model X.prog X.w) X.A (raiseStmt env (some xs) none) Q X.xe s:=by
 obtain⟨nm,q,N,bs,sn,sub,ab,col,dd,k0,k1,k2,k3,k5,lk⟩:=id M.cl.cls
 refine qai (nm:=nm) (q:=q) (C:=C) (R:=R) (N:=N) (bs:=bs) (sn:=sn) (sub:=sub) (ab:=ab) (col:=col) (dd:=dd) (k0:=k0) (k1:=k1) (k2:=k2) (k3:=k3) (k5:=k5) hh (thn h λv s1 hv=>?_)
 obtain⟨x,H2,_,rfl,hx0,hpin,hcell,_,I2,dx,hx,hE⟩:=hv
 obtain⟨⟨t,ho⟩,_,_⟩:=I2.hok x _ hx
 refine⟨x,_,rfl,I2.kIn _ _ lk,ho,rfl,⟨t,rfl⟩,?_⟩
 have I3:=Inv.del I2 hx
 refine th pins σ _ _ x C dx none I3 ⟨_,_,ho,rfl,rfl,rfl,rfl⟩ ⟨⟨qbs,λz=>?_,λz=>?_,.inr hx0,hcell,hpin⟩,hx0⟩ (λT' z=>nomatch z) hE
 ·have:=I2.free;rw[<-z,hx]at this;cases this
 ·have hs:∀b∈X.fs,b∈frs X.stack:=λb hb=>by
   rcases I2.ok.stk with e|⟨e,ef⟩
   ·rw[e];exact hb
   ·rw[e]
    show b∈(X.env::X.outer).filterMap (·.frame)
    rw[qik,ef]
    exact qf8 _ hb
  have:=I2.stkFree x (hs x z)
  rw[hx]at this;cases this
theorem ztz{pins:List (Addr×Obj)}{σ:St}{H:Hp}{s:Shared}{x:Addr}(I:Inv X pins σ H s)(hx:s.heap.objs.size<=x):X.s₀.heap.objs.size<=x/\(∀p∈X.pn++pins,p.1≠x)/\∀y c,X.env.cells.lookup y=some c->c≠x:=
 let fp:=I.fpOk (H':=λ_=>none) hx rfl
 ⟨qgn I.sz hx,fp.2.2.2.2.2,fp.2.2.2.2.1⟩
theorem zw2(M:XMk X.K C R f)(F:FnOk X.prog X.w X.K X.mg X.base (CX1 X.prog X.w) k f fd ps sp)(hr:Room (k+1) X.A)(hg:Gl X x)(hm:X.mg x=some (.ref C))(hb:Binds X.K fd ps [])(th:zcb X E)(hdb:(x == ("__debug__":Str))=false:=by decide){pos':Pos} :
  PS X (.Raise (some (.Call (.Name x p) [] [] pos)) none pos') (qcx X.K C sp E qcz):=by
 intro pins s σ H D I h
 rw[arm_exec_Raise]
 refine wpAny_bind (wpAny_standAt ?_)
 refine zmy M th hr.hd I (wpAny_bind (thn ?_ λv s1 hv=>wpAny_bind (wpAny_standAt (wpAny_pure hv))))
 refine wpAny_Call_Name_kw (zfp I hg hm ?_ hdb)
 refine qje I.kIn M.cl.kp ?_
 refine thn (zpc (us:=[]) (vs:=[]) M F hr hb I .nil (qg2 _) h.2) λv s2 ⟨x',H2,e1,e2,I2,q2⟩=>?_
 obtain⟨f1,f2,f3⟩:=ztz I e2
 exact⟨x',H2,s2,e1,f1,f2,f3,rfl,I2,q2⟩
end
structure qb0(K:qfa)(R:Addr)(m:Str)(f:Addr):Prop where
 sp:PySem.W.specialIn K (.ref R) "__getattribute__"=some (some (.builtin "type.__getattribute__"))
 rd:PySem.W.readsIn K R (.type "type")=true
 fc:PySem.W.findCls K (.ref R) (.type "type") m=some (.val (.ref f))
 kp:qgp K (.ref f)=true
section
variable{X:Cx}{k:Nat}{f R:Addr}{fd:FuncData}{ps:List Str}{sp:Sp}{E:XK}{x m:Str}{p pos apos:Pos}{e:Expr}{es:List Expr}{t:TA}
theorem zif{pl:Sem Bool}(cm:qb0 X.K R m f)(F:FnOk X.prog X.w X.K X.mg X.base (CX1 X.prog X.w) k f fd ps sp)(hr:Room k X.A)(hg:Gl X x)(hm:X.mg x=some (.ref R))(hb:Binds X.K fd ps [])(hx:zub (CX1 X.prog X.w) X E)(ha:PA X (e::es) t)(hdb:(x == ("__debug__":Str))=false:=by decide)(hst:starEach (e::es) X.env=(false,eval e X.env)::starEach es X.env:=by rfl)(hpl:(backTo pos (starEach es X.env)).any (·.1)=false:=by rfl)(ht:eval (.Call (.Attribute (.Name x p) m apos) (e::es) [] pos) X.env=(do
   let ov <-eval (.Name x p) X.env
   standAt apos.atName
   let (f,first) <-holding [ov] (getMethod ov m pl)
   callWith pos f first (backTo pos (starEach (e::es) X.env)) (backToKw pos (keywordEach [] X.env))):=by rfl) :
  PE X (.Call (.Attribute (.Name x p) m apos) (e::es) [] pos) (tCall sp [] E t):=by
 intro pins s σ H Q I h
 refine qh3 (pl:=pl) (zfp I hg hm ?_ hdb) ht
 refine PySem.W.method_cls I.kIn cm.sp (PySem.W.cls_value I.kIn cm.rd cm.fc rfl ?_)
 have I':=I.tok (s.toks+1)
 refine qhr (first:=[]) (h₀:=X.base) I.ok.mod.kin cm.kp (thn (ha pos pins _ σ H _ I' h) λus s2 ⟨vs,H2,I2,r,q2⟩=>⟨I2.kIn,?_⟩) hst hpl
 exact zmv (us:=us) (vs:=vs) F hr hb .nil hx I2 r q2
end
section
variable{X:Cx}
theorem zul{E:XK}{pins:List (Addr×Obj)}{σ:St}{H3:Hp}{s3:Shared}{scope:Scope}{cl:List (Str×Addr)}{fp:List Addr}{use:Option (Value->Sem Unit)}{Qf:Value->Shared->Prop}{D:Addr}(th:zcb X E)(hst:X.stack=X.env::X.outer)(hfr:X.env.frame=some X.env.locals)(I3:Inv X pins σ H3 s3)(f3:∀b∈fp,zon X pins H3 b) :
  zcb ((X.blk s3 H3 scope (compEnvC scope cl s3.heap.objs.size X.env) fp).wish (notedBy (model X.prog X.w) X.A (compEnvC scope cl s3.heap.objs.size X.env) λe s'=>compPost (model X.prog X.w) X.A X.xe use Qf (.ref D) s3.heap.objs.size (.error e) s')) E:=by
 intro pins' σ' H s e C dx T I xa fe fT hE
 show wpAny (model X.prog X.w) X.A (noteFrame (.ref e) (compEnvC scope cl s3.heap.objs.size X.env)) _ _ s
 refine zrm (X:=(X.blk s3 H3 scope (compEnvC scope cl s3.heap.objs.size X.env) fp).wish _) I xa fe fT (env₀:=X.env) (outer:=X.outer) hst hfr hfr λh1 T1 I1 xa1 fT1=>?_
 have J:Inv X pins σ H { s with heap:=h1 }:=I3.call' (ch:=fp) I1.os I1.base I1.hok I1.bare λb hb=>⟨(f3 b hb).2.2.2.1,(f3 b hb).2.1,(f3 b hb).2.2.2.2.1,(f3 b hb).2.2.2.2.2⟩
 have nC:H s3.heap.objs.size=none:=I1.free
 obtain⟨m,hn,_⟩:=I1.loc
 refine⟨m,hn,λh2 sb cenv hcl=>?_⟩
 have fC:zon X pins H s3.heap.objs.size:=I3.fpOk (qfh _) nC
 have J2:Inv X pins σ H { s with heap:=h2 }:=J.turned (t':=s.toks) (λb o hb e=>(sb.2 b hb).trans e) fC.1 fC.2.1 fC.2.2.2.1 fC.2.2.2.2.1 fC.2.2.2.2.2
 have fe2:FpN X pins H e:=I3.fpN fe.new fe.ok.1
 have fT2:FpN X pins H T1:=I3.fpN fT1.new fT1.ok.1
 have ne:e≠s3.heap.objs.size:=fe.ok.2.1
 have nT:T1≠s3.heap.objs.size:=fT1.ok.2.1
 obtain⟨oe,vs,ho,hc,hx,hd,t1,t2,oT,ts,fl,t3,t4⟩:=xa1
 have ho2:h2.get? e=some oe:=(sb.2 e ne).trans ho
 have xa2:XAt h2 e C dx (some T1):=⟨oe,vs,ho2,hc,hx,hd,t1,t2,oT,ts,fl,(sb.2 T1 nT).trans t3,t4⟩
 unfold PySem.passOn
 refine wpAny_bind (wpAny_field ho2 hd t1 ?_)
 rw[if_neg (show ¬((Value.ref T1 == Value.none)=true) from by simp)]
 have step:wpAny (model X.prog X.w) X.A (setFlight (.ref e) cenv.frame) (λ_ s''=>X.xe (.ref e) s'') X.xe { s with heap:=h2 }:=by
  refine zh2 J2 xa2 fe2 fT2 λh3 T3 I3' xa3 fT3=>?_
  exact th pins σ H _ e C dx (some T3) I3' xa3 fe2 (λT' z=>by cases z;exact fT3) hE
 first
  |exact wpAny_bind (wpAny_mono step (λ_ _ z=>wpAny_throw z) λ_ _ z=>z)
  |exact wpAny_bind (wpAny_pure (wpAny_bind (wpAny_mono step (λ_ _ z=>wpAny_throw z) λ_ _ z=>z)))
theorem qbi{E:XK}{pins:List (Addr×Obj)}{s:Shared}{σ:St}{H:Hp}{Q:VK}{elt tg iter:Expr}{ifs:List Expr}{scope:Scope}{own:List (Str×Nat)}{pos pos':Pos}{wi:TI}{g:TG}{tt:TT}{te:TE}{use:Option (Value->Sem Unit)}{Qf:Value->Shared->Prop}(th:zcb X E)(hst:X.stack=X.env::X.outer)(hfr:X.env.frame=some X.env.locals)(hc:X.calm=true)(hN:X.N.Nodup)(I:Inv X pins σ H s)(hi:PI X tg iter wi)(ok:zsr X.N X.env.scope scope own)(hg:∀(s:Shared) (H:Hp) (C:Addr) (cl:List (Str×Addr)) (fp:List Addr),PG (X.blk s H scope (compEnvC scope cl C X.env) fp) tg g)(ht:∀(s:Shared) (H:Hp) (C:Addr) (cl:List (Str×Addr)) (fp:List Addr),PTs (X.blk s H scope (compEnvC scope cl C X.env) fp) ifs tt)(he:∀(s:Shared) (H:Hp) (C:Addr) (cl:List (Str×Addr)) (fp:List Addr) (E':Value->Shared->Prop),zcb ((X.blk s H scope (compEnvC scope cl C X.env) fp).wish E') E->PE ((X.blk s H scope (compEnvC scope cl C X.env) fp).wish E') elt te)(hs:∀x,foldedSetIterable iter X.env x=pure x)(h:tLc wi g tt te (own.map (·.2)) σ H Q)(hRR:∀D C s' m H',Inv X pins σ H' s'->Q (.ref D) H'->s'.heap.Ns C m->zon X pins H' C->compPost (model X.prog X.w) X.A X.xe use Qf (.ref D) C (.ok .next) s') :
  wpAny (model X.prog X.w) X.A (comprehension (.ListComp elt [⟨tg,iter,ifs,0⟩] scope pos) scope X.env pos' (newList []) false (eval iter X.env) use) Qf X.xe s:=by
 have hfree:∀y∈scope.names,y.2=.free->∃c,X.env.cells.lookup y.1=some c:=λy hy e=>by
  rcases ok.free y hy e with k|k
  ·exact I.ok.has _ (.inl k)
  ·exact I.ok.has _ (.inr k)
 refine wpAny_comprehension_free (use:=use) rfl hs (ziu hfree) ok.kind (λy hy e=>by rw[ok.uniq y hy,e])
  (thn (hi pins s σ H _ I h) λxv s1 hx=>thn hx λitv s2 h2=>?_)
 obtain⟨it,fp,tn,J,H2,e,I2,T,st2,f2,q⟩:=h2
 subst e
 refine wpAny_newObj_type (zkz ?_) (by show 0<=sizeLine;decide)
 generalize hD:s2.heap.objs.size=D
 have hDn:H2 D=none:=I2.hok.fresh (qh2 hD)
 obtain⟨W,⟨m0,w0⟩,turn⟩:=q D hDn
 generalize hs3:({ s2 with heap:=s2.heap.push { cls:=.type "list",data:=.seq ([]:List Value).toArray } }:Shared)=s3
 have I3:Inv X pins σ (upd H2 D (.lst [])) s3:=by
  rw[<-hs3]
  refine I2.laid (t':=s2.toks) (λb o e=>Heap.get?_push_of_some _ e) (qh2 hD) ⟨qg2 _,[],0,.nil,?_⟩
  rw[<-hD]
  exact Heap.get?_push_size _ rfl
 have h3:s3.heap=s2.heap.push { cls:=.type "list",data:=.seq ([]:List Value).toArray }:=by rw[<-hs3]
 have sz:∀b∈fp,b<s2.heap.objs.size:=λb hb=>by
  obtain⟨o,e,_⟩:=T.obj _ _ st2 b hb
  exact Heap.lt_size e
 have f3:∀b∈fp,zon X pins (upd H2 D (.lst [])) b/\b<s3.heap.objs.size:=λb hb=>by
  have hlt:=sz b hb
  refine⟨⟨?_,(f2 b hb).2⟩,by rw[h3,Heap.size_push];exact qix hlt⟩
  rw[zai (by rw[<-hD];exact qf6 hlt)]
  exact (f2 b hb).1
 have st3:tn 0 s3.heap:=T.keep _ _ _ st2 λb _ o e=>by rw[h3];exact Heap.get?_push_of_some _ e
 have I4:=zlo I3 ok hN f3
 have thB:=zul (scope:=scope) (cl:=cellsFrom (s3.heap.objs.size+1) scope.names (za2 X.env.cells scope.names [])) (use:=use) (Qf:=Qf) (D:=D) th hst hfr I3 λb hb=>(f3 b hb).1
 have pg:=hg s3 (upd H2 D (.lst [])) s3.heap.objs.size (cellsFrom (s3.heap.objs.size+1) scope.names (za2 X.env.cells scope.names [])) fp
 have pt:=ht s3 (upd H2 D (.lst [])) s3.heap.objs.size (cellsFrom (s3.heap.objs.size+1) scope.names (za2 X.env.cells scope.names [])) fp
 have pe:=he s3 (upd H2 D (.lst [])) s3.heap.objs.size (cellsFrom (s3.heap.objs.size+1) scope.names (za2 X.env.cells scope.names [])) fp _ thB
 show codeAny _ _ (.compStart (.ListComp elt [⟨tg,iter,ifs,0⟩] scope pos) 0 (.ref it) (.ref D) (compEnvC scope (cellsFrom (s3.heap.objs.size+1) scope.names (za2 X.env.cells scope.names [])) s3.heap.objs.size X.env)) (compPost (model X.prog X.w) X.A X.xe use Qf (.ref D) s3.heap.objs.size) { s3 with heap:=pushCells (s3.heap.push { cls:=.type "dict",data:=.dict #[] }) scope.names }
 have nfp:∀b∈fp,(upd H2 D (.lst [])) b=none:=λb hb=>(f3 b hb).1.1
 clear thB
 generalize hce:compEnvC scope (cellsFrom (s3.heap.objs.size+1) scope.names (za2 X.env.cells scope.names [])) s3.heap.objs.size X.env=ce at I4 pg pt pe ⊢
 have cL:ce.locals=s3.heap.objs.size:=by subst hce;rfl
 generalize hH3:upd H2 D (.lst [])=H3 at I3 I4 pg pt pe w0 nfp f3
 generalize hs4:({ s3 with heap:=pushCells (s3.heap.push { cls:=.type "dict",data:=.dict #[] }) scope.names }:Shared)=s4 at I4 ⊢
 have st4:tn 0 s4.heap:=T.keep _ _ _ st3 λb _ o e=>by rw[<-hs4];exact pushCells_keeps _ _ _ _ (Heap.get?_push_of_some _ e)
 have stat:∀{σ':St}{H':Hp}{s':Shared},Inv (X.blk s3 H3 scope ce fp) [] σ' H' s'->(∀b∈fp,H' b=none)->∀b∈fp,zon (X.blk s3 H3 scope ce fp) [] H' b:=λ{σ' H' s'} I' hn b hb=>
  ⟨hn b hb,(I'.ok.exf b hb).1,I'.ok.exfs b hb,.inl hb,λx c e=>(I'.ok.exf b hb).2 x c e,λp hp=>absurd (show p∈([]:List (Addr×Obj))++[] from hp) (by simp)⟩
 have loop:codeAny (model X.prog X.w) X.A (.compLoop (.ListComp elt [⟨tg,iter,ifs,0⟩] scope pos) 0 (.ref it) (.ref D) ce) (compPost (model X.prog X.w) X.A X.xe use Qf (.ref D) s3.heap.objs.size) s4:=by
  refine zjh (λn s'=>∃i H',Inv (X.blk s3 H3 scope ce fp) [] (zdh σ (own.map (·.2))) H' s'/\tn i s'.heap/\(∀b∈fp,H' b=none)/\W i n H') ?_ m0 ⟨0,H3,I4,st4,nfp,w0⟩
  rintro n s5 ⟨i,H5,I5,st5,n5,w5⟩
  rcases turn i n H5 w5 with ⟨stop,qq⟩|⟨go,Nx,hNx,step⟩
  ·have td:=T.done (X.blk s3 H3 scope ce fp) rfl rfl rfl hc i [] s5 _ H5 (λ_ _=>False) I5 (stat I5 n5) st5 stop
   refine zwf td λr s6 ⟨hr,I6⟩=>?_
   subst hr
   have I7:Inv X pins σ H5 s6:=I3.call' (ch:=fp) I6.os I6.base I6.hok I6.bare λb hb=>⟨(f3 b hb).1.2.2.2.1,(f3 b hb).1.2.1,(f3 b hb).1.2.2.2.2.1,(f3 b hb).1.2.2.2.2.2⟩
   have nC:H5 s3.heap.objs.size=none:=by
    have z:H5 ce.locals=none:=I6.free
    rw[cL]at z
    exact z
   obtain⟨m,hn,_⟩:=I6.loc
   have hn:s6.heap.Ns ce.locals m:=hn
   rw[cL]at hn
   exact hRR D s3.heap.objs.size s6 m H5 I7 qq hn (I3.fpOk (qfh _) nC)
  ·have ti:=T.item (X.blk s3 H3 scope ce fp) rfl rfl rfl hc i [] s5 _ H5 (λ_ _=>False) I5 (stat I5 n5) st5 go
   refine zwf ti λr s6 ⟨u,hr,h6⟩=>?_
   subst hr
   refine zwf h6 λ_ s7 ⟨x,H7,I7,r7,y7,st7,n7⟩=>?_
   have I7':=I7.pinned (stat I7 n7) (T.obj _ _ st7)
   refine zwf (pg _ s7 _ H7 x u _ I7' r7 (step x H7 y7)) λ_ s8 ⟨σ8,H8,I8,hw8,q8⟩=>?_
   refine zwf (pt _ s8 σ8 H8 _ I8 q8) λb s9 ⟨H9,I9,q9⟩=>?_
   have fin:∀{s':Shared}{H':Hp},Inv (X.blk s3 H3 scope ce fp) ([]++zm2 fp s7.heap) σ8 H' s'->Nx H'->∃m,m<n/\∃i H',Inv (X.blk s3 H3 scope ce fp) [] (zdh σ (own.map (·.2))) H' s'/\tn i s'.heap/\(∀b∈fp,H' b=none)/\W i m H':=λ{s' H'} I' nx=>by
    obtain⟨m',hm,w'⟩:=hNx H' nx
    have pin':∀b∈fp,∀o,s7.heap.get? b=some o->s'.heap.get? b=some o/\H' b=none:=λb hb o e=>
     let z:=I'.pin (b,o) (qgf _ (qgf _ (zf5 hb e)))
     ⟨z.1,z.2.1⟩
    have hl:(zdh σ (own.map (·.2))).length=σ8.length:=by rw[<-hw8,zes]
    refine⟨m',hm,i+1,H',(I'.unpinned (pins:=[])).weak hl (λj v e=>?_),T.keep _ _ _ st7 λb hb o e=>(pin' b hb o e).1,λb hb=>?_,w'⟩
    ·rw[<-hw8]at e
     exact (zhd e).1
    ·obtain⟨o,e,_⟩:=T.obj _ _ st7 b hb
     exact (pin' b hb o e).2
   cases b with
   |false=>
    simp only[qfz,if_false]at q9 ⊢
    exact fin I9 q9
   |true=>
    simp only[if_true]at q9 ⊢
    refine thn (pe _ s9 σ8 H9 _ (I9.wish _) q9) λz s10 ⟨yv,H10,I10,r10,acc,hD10,hz10,nx⟩=>?_
    exact qcn (X:=X.blk s3 H3 scope ce fp) I10.unwish hD10 hz10 r10 λs11 I11=>fin I11 nx
 exact codeAny_compStart_list loop (T.self X.A 0 _ _ _ st4 loop)
theorem zpe{E:XK}{i:Nat}{y:Str}{py:Pos}{elt tg iter:Expr}{ifs:List Expr}{scope:Scope}{own:List (Str×Nat)}{pos spos:Pos}{wi:TI}{g:TG}{tt:TT}{te:TE}(th:zcb X E)(hst:X.stack=X.env::X.outer)(hfr:X.env.frame=some X.env.locals)(hc:X.calm=true)(hN:X.N.Nodup)(hy:X.N[i]?=some y)(hyl:X.env.scope.names.lookup y=some .local)(hsw:swapsWith (.ListComp elt [⟨tg,iter,ifs,0⟩] scope pos) (some (.Name y py)) spos.line X.env=pure true)(hi:PI X tg iter wi)(ok:zsr X.N X.env.scope scope own)(hg:∀(s:Shared) (H:Hp) (C:Addr) (cl:List (Str×Addr)) (fp:List Addr),PG (X.blk s H scope (compEnvC scope cl C X.env) fp) tg g)(ht:∀(s:Shared) (H:Hp) (C:Addr) (cl:List (Str×Addr)) (fp:List Addr),PTs (X.blk s H scope (compEnvC scope cl C X.env) fp) ifs tt)(he:∀(s:Shared) (H:Hp) (C:Addr) (cl:List (Str×Addr)) (fp:List Addr) (E':Value->Shared->Prop),zcb ((X.blk s H scope (compEnvC scope cl C X.env) fp).wish E') E->PE ((X.blk s H scope (compEnvC scope cl C X.env) fp).wish E') elt te)(hs:∀x,foldedSetIterable iter X.env x=pure x:=by intro _;rfl) :
  PS X (.Assign [.Name y py] (.ListComp elt [⟨tg,iter,ifs,0⟩] scope pos) spos) (tAsg (tLc wi g tt te (own.map (·.2))) (zjm i)):=by
 intro pins s σ H D I h
 rw[exec_Assign_Name_used _ _ _ _ hsw]
 refine wpAny_bind (wpAny_standAt (wpAny_bind ?_))
 show wpAny _ X.A (do let _ <-comprehension (.ListComp elt [⟨tg,iter,ifs,0⟩] scope pos) scope X.env (firstIterPos [⟨tg,iter,ifs,0⟩] pos) (newList []) false (eval iter X.env) (some (assign (.Name y py) X.env))) _ _ s
 have h:tLc wi g tt te (own.map (·.2)) σ H (λx H1=>zjm i x σ H1 D.nx):=h
 refine wpAny_bind (thn (qbi (Qf:=λ_ s'=>SP X pins D .next s') th hst hfr hc hN I hi ok hg ht he hs h λL C s' m H' I' q hn f=>?_) λ_ s' hq=>wpAny_pure (wpAny_pure hq))
 show wpAny _ _ (assign (.Name y py) X.env (.ref L)) _ _ _
 refine wpAny_assign_Name (zka (v:=V.ref L) I' hN hy (.inl hyl) rfl (λs2 I2 ⟨a,sb,ha⟩=>?_) (.inr hyl))
 obtain⟨f0,f1,f2,f3,f4,f5⟩:=f
 have haC:C≠a:=by
  rcases ha with z|z
  ·rw[z];exact f1
  ·exact λe=>f4 y a z e.symm
 refine⟨m,hn.sameBut sb haC,λh3 sb3=>?_⟩
 exact⟨_,H',I2.turned (t':=s2.toks) (λb o hb e=>(sb3.2 b hb).trans e) f0 f1 f3 f4 f5,q⟩
end
def xrd(C dx e:Addr):HO:=.ext λh=>∃oe vs,h.get? e=some oe/\oe.cls=.ref C/\oe.dict=some dx/\oe.data=.fields vs
theorem xrd_mk{P:Program}{w:World}{H:Hp}{h:Heap}{C dx e:Addr}{T:Option Addr}(x:XAt h e C dx T):ObjOk P w H h e (xrd C dx e):=by
 obtain⟨oe,vs,h1,h2,h3,h4,_⟩:=x
 exact⟨⟨oe,vs,h1,h2,h3,h4⟩,⟨_,h1⟩,λa b ⟨oe,vs,h1,h2⟩ k=>⟨oe,vs,k _ h1,h2⟩⟩
section
variable{X:Cx}{pins:List (Addr×Obj)}{σ:St}{H:Hp}{s:Shared}
theorem Inv.track{e:Addr}{o:HO}(I:Inv X pins σ H s)(fe:FpN X pins H e)(no:ObjOk X.prog X.w (upd H e o) s.heap e o):Inv X pins σ (upd H e o) s:=by
 have hn:H e=none:=fe.ok.1
 refine⟨I.ok,I.os,I.bare,⟨I.base.keep,I.base.slot,λb ob q n hx=>?_,I.base.there,λb xs q=>?_,λb ob u q=>?_,λb ps q=>?_⟩,I.loc,I.cell,?_,λx c q=>?_,λp hp=>?_,λb u q=>?_,I.len⟩
 ·rw[zai (qf6 (qfn (Heap.lt_size q) fe.new))];exact I.base.free b ob q n hx
 ·have z:=I.base.tups b xs q;rw[zai (zah z hn)];exact z
 ·have z:=I.base.frzs b ob u q;rw[zai (zah z hn)];exact z
 ·obtain⟨m,z⟩:=I.base.tbls b ps q;exact⟨m,by rw[zai (zah z hn)];exact z⟩
 ·rw[zai (Ne.symm fe.ok.2.1)];exact I.free
 ·rw[zai (fe.ok.2.2.2.2.1 x c q)];exact I.freeC x c q
 ·obtain⟨h1,h2,h3⟩:=I.pin p hp
  exact⟨h1,by rw[zai (fe.ok.2.2.2.2.2 p hp)];exact h2,h3⟩
 ·by_cases hb:b=e
  ·subst hb;rw[zac]at q;cases q;exact no
  ·rw[zai hb]at q
   exact (I.hok b u q).stay (λ_ _ _ z=>z) (λc z=>by rw[zai (zah z hn)];exact z) λc xs z=>by rw[zai (zah z hn)];exact z
theorem Inv.forget{h':Heap}{m':Str->Option Value}{t:Nat}(I:Inv X pins σ H s)(hn':h'.Ns X.env.locals m')(hs:Heap.SameBut X.env.locals s.heap h'):Inv X pins (qfk σ.length none) H { s with heap:=h',toks:=t }:=by
 obtain⟨m,hn,_⟩:=id I.loc
 obtain⟨oL,_,_,hoL,_⟩:=id hn
 have neL:∀b o,X.s₀.heap.get? b=some o->b≠X.env.locals:=λb o e=>qf6 (qfn (Heap.lt_size e) I.ok.above)
 refine⟨I.ok,I.os,I.bare,⟨λb o e n hb hx=>(hs.2 b (neL b o e)).trans (I.base.keep b o e n hb hx),λb o e n hb hx=>?_,I.base.free,λb o e hx=>?_,I.base.tups,I.base.frzs,I.base.tbls⟩,⟨m',hn',λj y v e1 e2 e3=>?_⟩,λy c e=>?_,I.free,I.freeC,λp hp=>?_,λb u e=>?_,by rw[qi0];exact I.len⟩
 ·obtain⟨sl,e1⟩:=I.base.slot b o e n hb hx
  exact⟨sl,(hs.2 b (neL b o e)).trans e1⟩
 ·obtain⟨o',e1⟩:=I.base.there b o e hx
  exact⟨o',(hs.2 b (neL b o e)).trans e1⟩
 ·rw[qhx]at e2
  split at e2 <;> cases e2
 ·obtain⟨w',z⟩:=I.cell y c e
  exact⟨w',z.sameBut hs (I.cne y c e)⟩
 ·obtain⟨e,n,ne,nf,d⟩:=I.pin p hp
  exact⟨(hs.2 p.1 ne).trans e,n,ne,nf,d⟩
 ·refine (I.hok b u e).stay (λc w' hc q=>(hs.2 c ?_).trans q) (λ_ q=>q) λ_ _ q=>q
  intro z
  have hf:=I.free
  rcases hc with hc|hc
  ·rw[<-z,hc,e]at hf;cases hf
  ·rw[<-z,hc]at hf;cases hf
end
def tXFld(K:qfa)(ta:TE)(f:Str):TE:=λσ H Q=>ta σ H λx H1=>∃a C R dx fs v,x=.ref a/\H1 a=some (xrd C dx a)/\H1 dx=some (xdo dx fs)/\zvv K C R/\NoAttr K C f/\fs.lookup f=some v/\Q v H1
theorem qdv{X:Cx}{e:Expr}{f:Str}{pos:Pos}{ta:TE}(he:PE X e ta)(hb:attributeBase e f X.env (eval e X.env)=eval e X.env):PE X (.Attribute e f pos) (tXFld X.K ta f):=by
 intro pins s σ H Q I h
 refine zzf hb (thn (he pins s σ H _ I h) λu s1 ⟨x,H1,I1,rx,a,C,R,dx,fs,v,ex,ea,ed,c,n,l,q⟩=>?_)
 subst ex
 obtain rfl:u=Value.ref a:=rx
 obtain⟨⟨oe,vs,ho,hc,hx,hd⟩,_,_⟩:=I1.hok a _ ea
 obtain⟨⟨mA,hn,r⟩,_,_⟩:=I1.hok dx _ ed
 obtain⟨od,hod,hl⟩:=zk3 hn
 obtain⟨u,hu,ru⟩:=RelO.some_of (v:=v) (o:=mA f) (by rw[<-l];exact r f)
 obtain⟨oc,odi,oda,osl⟩:=oe
 dsimp only at hc hx hd
 subst hc hx hd
 have J:PySem.W.InstAt s1.heap a ⟨.ref C,some dx,.fields vs,osl⟩ C (some od):=⟨ho,rfl,rfl,hod⟩
 obtain⟨nm,q',N,bs,sn,sub,ab,col,dd,k0,k1,k2,k3,k5,lk⟩:=id c.cls
 have hh:qh7 X.K C=true:=by unfold qh7 qhq;rw[lk];rfl
 exact getX I1.kIn J c (qki hh n rfl (by rw[hl,hu])) (zp0 ru) ⟨v,H1,I1.tok _,ru,q⟩
def RCls(K:qfa)(R:Addr):Prop:=∃nm q N bs sn sub ab col dd k0 k1 k2 k3 k5,K.lookup R=some (excClassObj nm q R N bs bmE true sn sub ab col dd k0 k1 k2 k3 k5 "Exception.__new__")
theorem matchX{M:Model}{A:Around}{K:qfa}{E:Value->Shared->Prop}{s:Shared}{e C R:Addr}{oe:Obj}{Q:Bool->Shared->Prop}(X:K.In s.heap)(c:zvv K C R)(r:RCls K R)(he:s.heap.get? e=some oe)(hc:oe.cls=.ref C)(h:Q true s) :
  wpAny M A (excMatches (.ref e) (.ref R)) Q E s:=by
 obtain⟨nm,q,N,bs,sn,sub,ab,col,dd,k0,k1,k2,k3,k5,lk⟩:=c.cls
 obtain⟨nm',q',N',bs',sn',sub',ab',col',dd',k0',k1',k2',k3',k5',lk'⟩:=r
 have hC:=X _ _ lk
 have hR:=X _ _ lk'
 obtain⟨hp,g,d,tk,os⟩:=s
 obtain⟨oc,odi,oda,osl⟩:=oe
 dsimp only at hc
 subst hc
 have c1:(Value.ref R::bmE).contains (.type "BaseException")=true:=by rw[qgt,show bmE.contains (.type "BaseException")=true from by decide,Bool.or_true]
 have c2:(Value.ref C::.ref R::bmE).contains (.ref R)=true:=by simp
 have hnt:isSubtype (.type "type") (.type "tuple")=pure false:=by kernel_rfl
 unfold excMatches
 repeat (first|(rw[show isSubtype (excClassObj nm' q' R N' bs' bmE true sn' sub' ab' col' dd' k0' k1' k2' k3' k5' "Exception.__new__").cls (Value.type "tuple")=pure false from hnt])|with_reducible refine wpAny_loadPart_at he ?_|with_reducible refine wpAny_loadPart_at hR ?_|(with_reducible refine wpAny_isSubtype_exc hR ?_;rw[c1])|(with_reducible refine wpAny_isSubtype_exc hC ?_;rw[c2])|wp_step)
 all_goals exact h
abbrev Cx.sut(X:Cx)(e:Value):Cx:={ X with A:=X.A.mark (some e),calm:=false,xe:=λ_ _=>False }
theorem Inv.sut{X:Cx}{pins:List (Addr×Obj)}{σ:St}{H:Hp}{s:Shared}(I:Inv X pins σ H s)(e:Value):Inv (X.sut e) pins σ H s:=
 ⟨⟨I.ok.mod,I.ok.kind,I.ok.glob,I.ok.blt,I.ok.above,I.ok.inj,I.ok.has,I.ok.cab,(λz=>nomatch z),I.ok.frames,I.ok.stk,I.ok.exf,I.ok.bs,I.ok.bsz,I.ok.noex,I.ok.exfs,I.ok.funs,I.ok.frf⟩,I.os,I.bare,I.base,I.loc,I.cell,I.free,I.freeC,I.pin,I.hok,I.len⟩
theorem Inv.unsut{X:Cx}{pins:List (Addr×Obj)}{σ:St}{H:Hp}{s:Shared}{e:Value}(ok:X.Ok)(I:Inv (X.sut e) pins σ H s):Inv X pins σ H s:=
 ⟨ok,I.os,I.bare,I.base,I.loc,I.cell,I.free,I.freeC,I.pin,I.hok,I.len⟩
abbrev Cx.pnd(X:Cx)(pn:List (Addr×Obj))(E:Value->Shared->Prop):Cx:={ X with pn:=pn,xe:=E }
theorem Cx.Ok.pnd{X:Cx}(ok:X.Ok)(pn:List (Addr×Obj))(E:Value->Shared->Prop):(X.pnd pn E).Ok:=
 ⟨ok.mod,ok.kind,ok.glob,ok.blt,ok.above,ok.inj,ok.has,ok.cab,ok.hd,ok.frames,ok.stk,ok.exf,ok.bs,ok.bsz,ok.noex,ok.exfs,ok.funs,ok.frf⟩
def tTry(tb ts:TS)(E:XK)(K:qfa)(R:Addr)(i:Nat):TS:=λD σ H=>tb D σ H/\∀(e C dx:Addr)(σ':St)(H':Hp),σ'.length=σ.length->E (.ref C) (some dx) H'->H' e=none ->
 zvv K C R/\ts { nx:=λ_ _=>False,rt:=D.rt } (σ'.set i (some (.ref e))) (upd H' e (xrd C dx e))
theorem ps_try{X:Cx}{E:XK}{R:Addr}{body suite:List Stmt}{b₀:Stmt}{rx n:Str}{p hpos pos:Pos}{i:Nat}{tb ts:TS}(hst:X.stack=X.env::X.outer)(hfr:X.env.frame=some X.env.locals)(rc:RCls X.K R)(hg:Gl X rx)(hm:X.mg rx=some (.ref R))(hN:X.N.Nodup)(hi:X.N[i]?=some n)(hl:X.env.kindOf n=some .local)(hb:∀pn E',zcb (X.pnd pn E') E->PSs (X.pnd pn E') body tb)(hs:∀e,PSs (X.sut e) (b₀::suite) ts)(hdb:(rx == ("__debug__":Str))=false:=by decide) :
  PS X (.Try body [.ExceptHandler (some (.Name rx p)) (some n) (b₀::suite) hpos] [] [] pos) (tTry tb ts E X.K R i):=by
 intro pins s σ H D I ⟨h1,h2⟩
 refine wpAny_Try_except ?_
 generalize hE':(λe s₁=>wpAny (model X.prog X.w) X.A (noteFrame e X.env) (λ_ s₂=>wpAny (model X.prog X.w) X.A (setFlight e none) (λ_ s₃=>wpAny (model X.prog X.w) X.A (handleBy e X.env [.ExceptHandler (some (.Name rx p)) (some n) (b₀::suite) hpos]) (SP X pins D) X.xe s₃) X.xe s₂) X.xe s₁)=E'
 have hlen:σ.length=X.N.length:=I.len
 have th:zcb (X.pnd (X.pn++pins) E') E:=by
  intro pins' σ' H' s' e C dx T I' xa fe fT hE
  have J:Inv X pins σ' H' s':=⟨I.ok,I'.os,I'.bare,I'.base,I'.loc,I'.cell,I'.free,I'.freeC,λq hq=>I'.pin q (qgq _ hq),I'.hok,I'.len⟩
  have fe':FpN X pins H' e:=⟨⟨fe.ok.1,fe.ok.2.1,fe.ok.2.2.1,fe.ok.2.2.2.1,fe.ok.2.2.2.2.1,λq hq=>fe.ok.2.2.2.2.2 q (qgq _ hq)⟩,fe.new⟩
  have fT':∀T',T=some T'->FpN X pins H' T':=λT' z=>⟨⟨(fT T' z).ok.1,(fT T' z).ok.2.1,(fT T' z).ok.2.2.1,(fT T' z).ok.2.2.2.1,(fT T' z).ok.2.2.2.2.1,λq hq=>(fT T' z).ok.2.2.2.2.2 q (qgq _ hq)⟩,(fT T' z).new⟩
  show E' (.ref e) s'
  rw[<-hE']
  refine zrm J xa fe' fT' hst hfr hfr λg1 T1 J1 xa1 fT1=>?_
  refine zh2 J1 xa1 fe' fT1 λg2 T2 J2 xa2 fT2=>?_
  obtain⟨xc,q2⟩:=h2 e C dx σ' H' (by rw[I'.len];exact hlen.symm) hE fe'.ok.1
  refine wpAny_handleBy_cons (codeAny_handlers_test ?_) (by intro q;cases q)
  have JS:=Inv.sut J2 (Value.ref e)
  refine zfp (X:=X.sut (.ref e)) JS hg hm ?_ hdb
  obtain⟨oe,vs,ho,hc,hx,hd,tr⟩:=id xa2
  refine matchX J2.kIn xc rc ho hc ?_
  refine codeAny_handlers_suite_as ?_
  refine zh2 J2 xa2 fe' fT2 λg3 T3 J3 xa3 fT3=>?_
  have J4:Inv X pins σ' (upd H' e (xrd C dx e)) { s' with heap:=g3 }:=Inv.track J3 fe' (xrd_mk xa3)
  refine znl (v:=V.ref e) J4 hN hi (.inl hl) rfl (λs5 J5=>?_) (.inr hl)
  refine wpAny_mono (hs (.ref e) pins s5 _ _ _ (Inv.sut J5 _) q2) (λf s6 hf=>?_) λ_ _ z=>False.elim z
  have fin:∀{σ6:St}{H6:Hp},Inv X pins σ6 H6 s6->(∀s7,Inv X pins (qfk σ6.length none) H6 s7->SP X pins D f s7)->wpAny (model X.prog X.w) X.A (do bindName X.env n .none;unbindBehindTheSuite X.env n hpos) (λ_ s7=>SP X pins D f s7) X.xe s6:=λ{σ6 H6} J6 k=>by
   obtain⟨m,hn,_⟩:=id J6.loc
   have hcls:(X.env.scope.kind == .class || (X.env.scope.kind == .module && X.env.locals != X.env.globals))=false:=by rw[J6.ok.kind];rfl
   exact wpAny_nameGoes hl hn hcls λh' m' hn' hs'=>k _ (Inv.forget J6 hn' hs')
  cases f with
  |next=>obtain⟨_,_,_,z⟩:=hf;exact False.elim z
  |brk=>obtain⟨_,_,_,z⟩:=hf;exact False.elim z
  |cont=>obtain⟨_,_,_,z⟩:=hf;exact False.elim z
  |ret u=>
   obtain⟨v,σ6,H6,J6,rv,q6⟩:=hf
   exact fin (Inv.unsut I.ok J6) λs7 J7=>⟨v,_,H6,J7,rv,q6⟩
 have I0:Inv (X.pnd (X.pn++pins) E') [] σ H s:=⟨I.ok.pnd _ _,I.os,I.bare,I.base,I.loc,I.cell,I.free,I.freeC,λq hq=>I.pin q (by simpa using hq),I.hok,I.len⟩
 have back:∀{σ':St}{H':Hp}{s':Shared},Inv (X.pnd (X.pn++pins) E') [] σ' H' s'->Inv X pins σ' H' s':=λ{σ' H' s'} I'=>
  ⟨I.ok,I'.os,I'.bare,I'.base,I'.loc,I'.cell,I'.free,I'.freeC,λq hq=>I'.pin q (by simpa using hq),I'.hok,I'.len⟩
 refine wpAny_mono (hb (X.pn++pins) E' th [] s σ H D I0 h1) (λf s1 hf=>?_) λ_ _ z=>z
 cases f with
 |next=>
  obtain⟨σ',H',I',q⟩:=hf
  exact wpAny_execs_nil ⟨σ',H',back I',q⟩
 |brk=>obtain⟨σ',H',I',q⟩:=hf;exact⟨σ',H',back I',q⟩
 |cont=>obtain⟨σ',H',I',q⟩:=hf;exact⟨σ',H',back I',q⟩
 |ret u=>obtain⟨v,σ',H',I',r,q⟩:=hf;exact⟨v,σ',H',back I',r,q⟩
section
variable(P:Program)(w:World)(K:qfa)(mg:Str->Option Value)(base:Heap)
def Ok(k:Nat)(x:Str)(ps:List Str)(sp:Sp):Prop:=∃f fd,mg x=some (.ref f)/\qgp K (.ref f)=true/\Binds K fd ps []/\FnOk P w K mg base (CX1 P w) k f fd ps sp
def OkM(k:Nat)(C:Addr)(m:Str)(ps:List Str)(sp:Sp):Prop:=Cls K C/\∃f fd,Meth K C m f/\Binds K fd ps []/\FnOk P w K mg base (CX1 P w) k f fd ps sp
def OkC(k:Nat)(x:Str)(C:Addr)(ps:List Str)(sp:Sp):Prop:=mg x=some (.ref C)/\∃f fd,Mk K C f/\Binds K fd ps []/\FnOk P w K mg base (CX1 P w) k f fd ps sp
end
def qb5(sp:Sp)(E:XK)(t:TA):TE:=λσ H Q=>t σ H λvs H1=>sp vs H1 Q E
def zwg(C:Addr)(m:Str)(sp:Sp)(E:XK)(ta:TE)(t:TA):TE:=λσ H Q=>ta σ H λx H1=>∃a dx fs,x=.ref a/\H1 a=some (.ins C dx fs)/\fs.lookup m=none/\t σ H1 λvs H2=>sp (x::vs) H2 Q E
def tMakeN(C:Addr)(sp:Sp)(E:XK)(t:TA):TE:=λσ H Q=>t σ H λvs H1=>∀x dx,H1 x=none->H1 dx=none->dx≠x ->
 sp (.ref x::vs) (upd (upd H1 dx (.own x)) x (.ins C dx [])) (λv H2=>v=.non/\Q (.ref x) H2) E
section
variable{X:Cx}{k:Nat}{C:Addr}{ps:List Str}{sp:Sp}{E:XK}{x m:Str}{p pos apos:Pos}{e o:Expr}{es:List Expr}{ta:TE}{t:TA}
theorem cN(O:Ok X.prog X.w X.K X.mg X.base k x ps sp)(hr:Room k X.A)(th:zcb X E)(ha:PA X (e::es) t)(hg:Gl X x:=by rfl)(hdb:(x == ("__debug__":Str))=false:=by decide)(he:starEach (e::es) X.env=(false,eval e X.env)::starEach es X.env:=by rfl)(hpl:(backTo pos (starEach es X.env)).any (·.1)=false:=by rfl) :
  PE X (.Call (.Name x p) (e::es) [] pos) (qb5 sp E t):=by
 obtain⟨f,fd,hm,hk,hb,F⟩:=O
 intro pins s σ H Q I h
 refine wpAny_Call_Name_kw (zfp I hg hm ?_ hdb)
 refine qhr (h₀:=X.base) I.ok.mod.kin hk (thn (ha pos pins s σ H _ I h) λus s1 ⟨vs,H1,I1,r,q⟩=>⟨I1.kIn,?_⟩) he hpl
 exact zmv F hr hb .nil (zc8 th) I1 r (by rw[qgb];exact q)
theorem cN0(O:Ok X.prog X.w X.K X.mg X.base k x ps sp)(hr:Room k X.A)(th:zcb X E)(hg:Gl X x:=by rfl)(hdb:(x == ("__debug__":Str))=false:=by decide):PE X (.Call (.Name x p) [] [] pos) (qb5 sp E qcz):=by
 obtain⟨f,fd,hm,hk,hb,F⟩:=O
 intro pins s σ H Q I h
 refine wpAny_Call_Name_kw (zfp I hg hm ?_ hdb)
 exact qje I.kIn hk (zmv (us:=[]) F hr hb .nil (zc8 th) I .nil h)
theorem cM{pl:Sem Bool}(O:OkM X.prog X.w X.K X.mg X.base k C m ps sp)(hr:Room k X.A)(th:zcb X E)(he:PE X o ta)(ha:PA X (e::es) t)(hst:starEach (e::es) X.env=(false,eval e X.env)::starEach es X.env:=by rfl)(hpl:(backTo pos (starEach es X.env)).any (·.1)=false:=by rfl)(ht:eval (.Call (.Attribute o m apos) (e::es) [] pos) X.env=(do
   let ov <-eval o X.env
   standAt apos.atName
   let (f,first) <-holding [ov] (getMethod ov m pl)
   callWith pos f first (backTo pos (starEach (e::es) X.env)) (backToKw pos (keywordEach [] X.env))):=by rfl) :
  PE X (.Call (.Attribute o m apos) (e::es) [] pos) (zwg C m sp E ta t):=by
 obtain⟨c,f,fd,hm,hb,F⟩:=O
 intro pins s σ H Q I h
 refine qh3 (pl:=pl) (thn (he pins s σ H _ I h) λu s1 ⟨x,H1,I1,rx,a,dx,fs,ex,ea,l,q⟩=>?_) ht
 subst ex
 obtain rfl:u=Value.ref a:=rx
 refine zir I1 ea c hm l ?_
 refine qhr (first:=[.ref a]) (h₀:=X.base) I.ok.mod.kin hm.kp (thn (ha pos pins s1 σ H1 _ I1 q) λus s2 ⟨vs,H2,I2,r,q2⟩=>⟨I2.kIn,?_⟩) hst hpl
 exact zmv (us:=.ref a::us) (vs:=.ref a::vs) F hr hb .nil (zc8 th) I2 (.cons rfl r) (by rw[qgb];exact q2)
theorem cM0{pl:Sem Bool}(O:OkM X.prog X.w X.K X.mg X.base k C m ps sp)(hr:Room k X.A)(th:zcb X E)(he:PE X o ta)(ht:eval (.Call (.Attribute o m apos) [] [] pos) X.env=(do
   let ov <-eval o X.env
   standAt apos.atName
   let (f,first) <-holding [ov] (getMethod ov m pl)
   callWith pos f first (backTo pos (starEach [] X.env)) (backToKw pos (keywordEach [] X.env))):=by rfl) :
  PE X (.Call (.Attribute o m apos) [] [] pos) (zwg C m sp E ta qcz):=by
 obtain⟨c,f,fd,hm,hb,F⟩:=O
 intro pins s σ H Q I h
 refine qh3 (pl:=pl) (thn (he pins s σ H _ I h) λu s1 ⟨x,H1,I1,rx,a,dx,fs,ex,ea,l,q⟩=>?_) ht
 subst ex
 obtain rfl:u=Value.ref a:=rx
 refine zir I1 ea c hm l ?_
 exact qje (first:=[.ref a]) I1.kIn hm.kp (zmv (us:=[.ref a]) (vs:=[.ref a]) F hr hb .nil (zc8 th) I1 (.cons rfl .nil) q)
theorem cC(O:OkC X.prog X.w X.K X.mg X.base k x C ps sp)(hr:Room (k+1) X.A)(th:zcb X E)(ha:PA X (e::es) t)(hg:Gl X x:=by rfl)(hdb:(x == ("__debug__":Str))=false:=by decide)(he:starEach (e::es) X.env=(false,eval e X.env)::starEach es X.env:=by rfl)(hpl:(backTo pos (starEach es X.env)).any (·.1)=false:=by rfl) :
  PE X (.Call (.Name x p) (e::es) [] pos) (tMakeN C sp E t):=by
 obtain⟨hm,f,fd,M,hb,F⟩:=O
 intro pins s σ H Q I h
 refine wpAny_Call_Name_kw (zfp I hg hm ?_ hdb)
 refine qhr (h₀:=X.base) I.ok.mod.kin M.kp (thn (ha pos pins s σ H _ I h) λus s1 ⟨vs,H1,I1,r,q⟩=>⟨I1.kIn,?_⟩) he hpl
 exact qah M F hr hb .nil (zc8 th) I1 r λx dx h1 h2 h3=>by rw[qgb];exact q x dx h1 h2 h3
end
def GF(K:qfa)(x:Str)(st:Stmt)(ps:List Str):Prop:=∃f fd,qhs K mainGlobals x=some (some (.ref f))/\Fun K x x st f fd/\Binds K fd ps []
def GM(K:qfa)(C:Addr)(m qual:Str)(st:Stmt)(ps:List Str):Prop:=∃f fd,Meth K C m f/\Fun K m qual st f fd/\Binds K fd ps []
structure MG(K:qfa)(mg:Str->Option Value):Prop where
 m:∀x v,qhs K mainGlobals x=some (some v)->mg x=some v
 n:∀x,qhs K mainGlobals x=some none->mg x=none
section
variable{P:Program}{w:World}{K:qfa}{mg:Str->Option Value}{base:Heap}
theorem GF.ok{x:Str}{st:Stmt}{N ps:List Str}{k:Nat}{sp:Sp}(G:GF K x st ps)(M:MG K mg)(S:zak N ps (zag st))(len:∀vs H Q E,sp vs H Q E->vs.length=ps.length)(hbody:∀(f:Addr) (cdv:Value) (A:Around) (outer:List Env) (s:Shared) (H:Hp) (vs:List V) (Q:VK) (E:XK),Room k (A.deeper (envOfC x (zag st) s.heap.objs.size f cdv))->sp vs H Q E ->
   ∃t,PSs (zvm (CX1 P w) P w K mg base N x (zag st) f cdv A outer s H E) (zbi st) t/\t { nx:=λ_ H'=>Q .non H',rt:=Q } (zib N vs) H):Ok P w K mg base (k+1) x ps sp:=by
 obtain⟨f,fd,hn,F,hb⟩:=G
 exact⟨f,fd,M.m _ _ hn,F.kp,hb,F.okX S len (hbody f)⟩
theorem GM.ok{C:Addr}{m qual:Str}{st:Stmt}{N ps:List Str}{k:Nat}{sp:Sp}(G:GM K C m qual st ps)(c:Cls K C)(S:zak N ps (zag st))(len:∀vs H Q E,sp vs H Q E->vs.length=ps.length)(hbody:∀(f:Addr) (cdv:Value) (A:Around) (outer:List Env) (s:Shared) (H:Hp) (vs:List V) (Q:VK) (E:XK),Room k (A.deeper (envOfC qual (zag st) s.heap.objs.size f cdv))->sp vs H Q E ->
   ∃t,PSs (zvm (CX1 P w) P w K mg base N qual (zag st) f cdv A outer s H E) (zbi st) t/\t { nx:=λ_ H'=>Q .non H',rt:=Q } (zib N vs) H):OkM P w K mg base (k+1) C m ps sp:=by
 obtain⟨f,fd,hm,F,hb⟩:=G
 exact⟨c,f,fd,hm,hb,F.okX S len (hbody f)⟩
theorem zbl{x:Str}{st:Stmt}{ps:List Str}{f:Addr}{oc:Value}{od an:Option Addr}{osl:Array (Option Value)}{kV doc pm cdv ct:Value}(a:qhs K mainGlobals x=some (some (.ref f)))(l:K.lookup f=some ⟨oc,od,.func (qgo x x (zbv st) (zbi st) (zag st) .none kV doc pm an cdv ct),osl⟩)(c:qhg K cdv x=true)(k:qgp K (.ref f)=true)(b:∀(kV doc pm:Value) (an:Option Addr) (cdv ct:Value) (us:List Value),us.length=ps.length->bindArgs (qgo x x (zbv st) (zbi st) (zag st) .none kV doc pm an cdv ct) ⟨us,[]⟩=pure (ps.zip us)):GF K x st ps:=
 ⟨f,_,a,zgm l c k,(zgm l c k).binds b⟩
theorem zdu{C:Addr}{m qual:Str}{st:Stmt}{ps:List Str}{f:Addr}{oc:Value}{od an:Option Addr}{osl:Array (Option Value)}{kV doc pm cdv ct:Value}(a:qfp K (.ref C) m=some (some (.ref f)))(i:qin K (.ref f)=true)(l:K.lookup f=some ⟨oc,od,.func (qgo m qual (zbv st) (zbi st) (zag st) .none kV doc pm an cdv ct),osl⟩)(c:qhg K cdv qual=true)(k:qgp K (.ref f)=true)(b:∀(kV doc pm:Value) (an:Option Addr) (cdv ct:Value) (us:List Value),us.length=ps.length->bindArgs (qgo m qual (zbv st) (zbi st) (zag st) .none kV doc pm an cdv ct) ⟨us,[]⟩=pure (ps.zip us)):GM K C m qual st ps:=
 ⟨f,_,⟨a,i,k⟩,zgm l c k,(zgm l c k).binds b⟩
end
def GFC(K:qfa)(x:Str)(st:Stmt)(ps:List Str)(c P:Addr):Prop:=∃(f:Addr)(oc:Value)(od:Option Addr)(kV doc pm:Value)(an:Option Addr)(ct:Value)(osl:Array (Option Value)),qhs K mainGlobals x=some (some (.ref f)) ∧
 K.lookup f=some ⟨oc,od,.func (qgo x x (zbv st) (zbi st) (zag st) .none kV doc pm an (.ref c) ct),osl⟩/\qhg K (.ref c) x=true/\qgp K (.ref f)=true/\Binds K (qgo x x (zbv st) (zbi st) (zag st) .none kV doc pm an (.ref c) ct) ps []/\∀h:Heap,K.In h->PySem.W.CodeHd h c P
theorem GFC.ok{P:Program}{w:World}{K:qfa}{mg:Str->Option Value}{base:Heap}{x:Str}{st:Stmt}{N ps:List Str}{k:Nat}{sp:Sp}{c Pt:Addr}(G:GFC K x st ps c Pt)(M:MG K mg)(S:zak N ps (zag st))(len:∀vs H Q E,sp vs H Q E->vs.length=ps.length)(hbody:∀(f:Addr) (A:Around) (outer:List Env) (s:Shared) (H:Hp) (vs:List V) (Q:VK) (E:XK),Room k (A.deeper (envOfC x (zag st) s.heap.objs.size f (.ref c)))->sp vs H Q E ->
   ∃t,PSs (zvm (CX1 P w) P w K mg base N x (zag st) f (.ref c) A outer s H E) (zbi st) t/\t { nx:=λ_ H'=>Q .non H',rt:=Q } (zib N vs) H):Ok P w K mg base (k+1) x ps sp:=by
 obtain⟨f,oc,od,kV,doc,pm,an,ct,osl,hn,lk,hcd,kp,hb,_⟩:=G
 exact⟨f,_,M.m _ _ hn,kp,hb,fn_of lk hcd S len λA outer s H vs Q E hr hsp=>hbody f A outer s H vs Q E hr hsp⟩
theorem gfc_mk{K:qfa}{x:Str}{st:Stmt}{ps:List Str}{f c P:Addr}{oc:Value}{od an odc:Option Addr}{osl slc:Array (Option Value)}{kV doc pm ct v0 v1 v2 v3 v4 v5 v6 v8 v12 v13 v14 v15 v16 v17:Value}{i7 i10:Int}{t7 t10 t18:Tok}{b9:Bool}{f18:Str}(a:qhs K mainGlobals x=some (some (.ref f)))(l:K.lookup f=some ⟨oc,od,.func (qgo x x (zbv st) (zbi st) (zag st) .none kV doc pm an (.ref c) ct),osl⟩)(cd:qhg K (.ref c) x=true)(k:qgp K (.ref f)=true)(d:K.lookup c=some ⟨.type "code",odc,.fields #[v0,v1,v2,v3,v4,v5,v6,.int i7 t7,v8,.bool b9,.int i10 t10,.ref P,v12,v13,v14,v15,v16,v17,.str f18 t18],slc⟩)(ne:(c == P)=false)(b:∀(kV doc pm:Value) (an:Option Addr) (cdv ct:Value) (us:List Value),us.length=ps.length->bindArgs (qgo x x (zbv st) (zbi st) (zag st) .none kV doc pm an cdv ct) ⟨us,[]⟩=pure (ps.zip us)):GFC K x st ps c P:=
 ⟨f,oc,od,kV,doc,pm,an,ct,osl,a,l,cd,k,.all (b kV doc pm an (.ref c) ct),λh X=>⟨_,_,_,_,_,_,_,_,_,X _ _ d,rfl,rfl,rfl,rfl,rfl,rfl,rfl,rfl,λz=>by rw[z]at ne;simp at ne⟩⟩
def xf(n k:Int):List (Str×V):=[("number",.int n),("at",.int k)]
def zaw(K:qfa)(R:Addr)(E:XK)(n k:Int):Prop:=∀(C dx:Addr)(H':Hp),zvv K C R->H' dx=some (xdo dx (xf n k))->E (.ref C) (some dx) H'
def spX(C:Addr)(n:Int):Sp:=λvs H Q _=>∃(e:Addr)(k:Int),vs=[.ref e,.int k]/\H e=some (zzw C e)/\∀dx H',dx≠e->H' e=some (xob C dx e)->H' dx=some (xdo dx (xf n k))->Q .non H'
def spX0(C:Addr)(n:Int):Sp:=λvs H Q _=>∃(e:Addr),vs=[.ref e]/\H e=some (zzw C e)/\∀dx H',dx≠e->H' e=some (xob C dx e)->H' dx=some (xdo dx (xf n 0))->Q .non H'
section
variable(P:Program)(w:World)(K:qfa)(mg:Str->Option Value)(base:Heap)
def OkX(R:Addr)(k:Nat)(x:Str)(n:Int):Prop:=∃C f fd,XMk K C R f/\mg x=some (.ref C)/\Binds K fd ["self","at"] []/\FnOk P w K mg base (CX1 P w) k f fd ["self","at"] (spX C n)
def OkX0(R:Addr)(k:Nat)(x:Str)(n:Int):Prop:=∃C f fd,XMk K C R f/\mg x=some (.ref C)/\Binds K fd ["self"] []/\FnOk P w K mg base (CX1 P w) k f fd ["self"] (spX0 C n)
end
section
variable{X:Cx}{k:Nat}{R:Addr}{E:XK}{x:Str}{p pos pos':Pos}{e:Expr}{te:TE}{n:Int}
def tRs(K:qfa)(R:Addr)(E:XK)(n:Int)(te:TE):TS:=λ_ σ H=>te σ H λv _=>∃i,[v]=[V.int i]/\zaw K R E n i
theorem znr(O:OkX X.prog X.w X.K X.mg X.base R k x n)(hr:Room (k+1) X.A)(th:zcb X E)(he:PE X e te)(hg:Gl X x:=by rfl)(hdb:(x == ("__debug__":Str))=false:=by decide)(hst:starEach [e] X.env=(false,eval e X.env)::starEach [] X.env:=by rfl) :
  PS X (.Raise (some (.Call (.Name x p) [e] [] pos)) none pos') (tRs X.K R E n te):=by
 obtain⟨C,f,fd,M,hm,hb,F⟩:=O
 intro pins s σ H D I h
 rw[arm_exec_Raise]
 refine wpAny_bind (wpAny_standAt ?_)
 refine zmy M th hr.hd I (wpAny_bind (thn ?_ λv s1 hv=>wpAny_bind (wpAny_standAt (wpAny_pure hv))))
 refine wpAny_Call_Name_kw (zfp I hg hm ?_ hdb)
 have ha:PA X [e] (zz0 te qcz):=zaa he zae hst
 refine qhr (h₀:=X.base) I.ok.mod.kin M.cl.kp (thn (ha pos pins s σ H (λvs _=>∃i,vs=[V.int i]/\zaw X.K R E n i) I h) λus s1 ⟨vs,H1,I1,r,i,ev,q⟩=>⟨I1.kIn,?_⟩) hst rfl
 subst ev
 refine thn (zpc M F hr hb I1 r (by rw[qgm,<-r.length];show 1<=sizeLine;decide) (Q:=λx H2=>∃dx,H2 x=some (xob C dx x)/\E (.ref C) (some dx) (del H2 x)) λx hx=>⟨x,i,rfl,zac,λdx H' ne e1 e2=>⟨rfl,dx,e1,q C dx _ M.cl (by rw[zy1 ne];exact e2)⟩⟩) λv s2 ⟨x',H2,e1,e2,I2,q2⟩=>?_
 obtain⟨f1,f2,f3⟩:=ztz I1 e2
 exact⟨x',H2,s2,e1,f1,f2,f3,rfl,I2,q2⟩
def tRs0(K:qfa)(R:Addr)(E:XK)(n:Int):TS:=λ_ _ _=>zaw K R E n 0
theorem zjc(O:OkX0 X.prog X.w X.K X.mg X.base R k x n)(hr:Room (k+1) X.A)(th:zcb X E)(hg:Gl X x:=by rfl)(hdb:(x == ("__debug__":Str))=false:=by decide) :
  PS X (.Raise (some (.Call (.Name x p) [] [] pos)) none pos') (tRs0 X.K R E n):=by
 obtain⟨C,f,fd,M,hm,hb,F⟩:=O
 intro pins s σ H D I h
 have q:zaw X.K R E n 0:=h
 refine zw2 M F hr hg hm hb th hdb pins s σ H D I ?_
 exact⟨qg2 _,λx hx=>⟨x,rfl,zac,λdx H' ne e1 e2=>⟨rfl,dx,e1,q C dx _ M.cl (by rw[zy1 ne];exact e2)⟩⟩⟩
end
theorem zaj{H:Hp}{p:Addr}(h:H p=none)(o:HO):Same H (upd H p o):=λb u q=>by rw[zai (zah q h)];exact q
theorem zay{H0 H:Hp}{p:Addr}(s:Same H0 H)(h:H0 p=none)(o:HO):Same H0 (upd H p o):=λb u q=>by rw[zai (zah q h)];exact s b u q
theorem Same.tup{K:qfa}{H H':Hp}{a:Addr}{xs:List V}(e:Same H H')(h:SqT K H a xs):SqT K H' a xs:=by
 rcases h with (h|⟨o,h⟩)|h
 ·exact .inl (.inl (e _ _ h))
 ·exact .inl (.inr ⟨o,e _ _ h⟩)
 ·exact .inr h
theorem big{n:Nat}(h:n<=1000000):n<=sizeLine:=by rw[sizeLine_eq];lia
theorem zhc{n:Nat}(h:n<=1000000):n<sizeLine:=by rw[sizeLine_eq];lia
theorem zye{K:qfa}{a b:Addr}{xs ys:List Int}{te:TE}{vs:List Nat}{σ:St}{H1:Hp}{D:Addr}{Qd:Hp->Prop}(f:Int->Int->Int)(i j:Nat)(hD:H1 D=none)(ha:SqL K H1 a (xs.map V.int))(hb:SqL K H1 b (ys.map V.int))(hz:xs.length<=1000000)(hw:∀x y,zdh (((zdh σ vs).set i (some x)).set j (some y)) vs=zdh σ vs)(ht:∀x y H2 Q,x∈xs->y∈ys->Q (V.int (f x y)) H2->te (((zdh σ vs).set i (some (.int x))).set j (some (.int y))) H2 Q)(hq:∀H',Same H1 H'->H' D=some (.lst ((qfs f xs ys).map V.int))->Qd H') :
  ∃W:Nat->Nat->Hp->Prop,(∃m,W 0 m (upd H1 D (.lst [])))/\∀k m H,W k m H ->
   ((Itz K a b).stop k H/\Qd H)\/((Itz K a b).go k H/\∃Nx:Hp->Prop,(∀H',Nx H'->∃m',m'<m/\W (k+1) m' H')/\∀x H',(Itz K a b).yld k H x H'->gTup K 2 (zyq (zjm i) (zyq (zjm j) gNil)) x (zdh σ vs) H' λσ2 H2=>zdh σ2 vs=zdh σ vs/\tYes σ2 H2 λb H3=>
    if b=true then te σ2 H3 λy H4=>∃acc,H4 D=some (.lst acc)/\acc.length<sizeLine/\Nx (upd H4 D (.lst (acc++[y]))) else Nx H3):=by
 let L:=qfs f xs ys
 have hL:L.length=min xs.length ys.length:=by simp[L]
 refine⟨λk m H=>m=L.length - k/\k<=L.length/\Same H1 H/\H D=some (.lst ((L.take k).map V.int)),⟨L.length,by simp,qg2 _,zaj hD _,by rw[zac];rfl⟩,?_⟩
 rintro k m H ⟨rfl,hk,sm,hacc⟩
 have qa:=sm.seq ha
 have qb:=sm.seq hb
 by_cases hlt:k<L.length
 ·have hx:k<xs.length:=by lia
  have hy:k<ys.length:=by lia
  refine .inr ⟨⟨_,_,.int xs[k],.int ys[k],qa,qb,by simp[hx],by simp[hy]⟩,λH'=>Same H1 H'/\H' D=some (.lst ((L.take (k+1)).map V.int)),λH' p'=>⟨L.length - (k+1),by lia,rfl,hlt,p'⟩,λx H' y=>?_⟩
  obtain⟨T,x',y',rfl,hT,rfl,e1,e2⟩:=y
  have e1':=e1 _ qa
  have e2':=e2 _ qb
  rw[qfe,qf2 hx]at e1'
  rw[qfe,qf2 hy]at e2'
  obtain rfl:V.int xs[k]=x':=qfl.inj e1'
  obtain rfl:V.int ys[k]=y':=qfl.inj e2'
  have sT:Same H (upd H T (.tup [V.int xs[k],V.int ys[k]])):=zaj hT _
  refine⟨T,_,rfl,.inl (.inl zac),rfl,_,_,rfl,_,_,rfl,rfl,hw _ _,?_⟩
  refine ht _ _ _ _ (qig hx) (qig hy) ⟨_,sT _ _ hacc,?_,zay (sm.trans sT) hD _,?_⟩
  ·rw[qe9,qfx];exact zhc (by lia)
  ·rw[zac,qgi,qf2 hlt]
   simp[L]
 ·have e:k=L.length:=by lia
  subst e
  refine .inl ⟨⟨_,_,qa,qb,?_⟩,hq H sm ?_⟩
  ·rw[qe9,qe9];lia
  ·rw[hacc,qgr]
theorem zn5{K:qfa}{a:Addr}{xs:List Int}{te:TE}{vs:List Nat}{σ:St}{H1:Hp}{D:Addr}{Qd:Hp->Prop}(f:Int->Int)(i:Nat)(hD:H1 D=none)(ha:SqL K H1 a (xs.map V.int))(hz:xs.length<=1000000)(hw:∀x,zdh ((zdh σ vs).set i (some x)) vs=zdh σ vs)(ht:∀x H2 Q,x∈xs->Same H1 H2->Q (V.int (f x)) H2->te ((zdh σ vs).set i (some (.int x))) H2 Q)(hq:∀H',Same H1 H'->H' D=some (.lst ((xs.map f).map V.int))->Qd H') :
  ∃W:Nat->Nat->Hp->Prop,(∃m,W 0 m (upd H1 D (.lst [])))/\∀k m H,W k m H ->
   ((Itl K a).stop k H/\Qd H)\/((Itl K a).go k H/\∃Nx:Hp->Prop,(∀H',Nx H'->∃m',m'<m/\W (k+1) m' H')/\∀x H',(Itl K a).yld k H x H'->zjm i x (zdh σ vs) H' λσ2 H2=>zdh σ2 vs=zdh σ vs/\tYes σ2 H2 λb H3=>
    if b=true then te σ2 H3 λy H4=>∃acc,H4 D=some (.lst acc)/\acc.length<sizeLine/\Nx (upd H4 D (.lst (acc++[y]))) else Nx H3):=by
 refine zfq (xs:=xs.map V.int) (λk H=>Same H1 H/\H D=some (.lst (((xs.map f).take k).map V.int))) ⟨zaj hD _,by rw[zac];rfl⟩ (λk H _ p=>p.1.seq ha) (λk x H hx ⟨sm,hacc⟩=>?_) λH ⟨sm,hacc⟩=>hq H sm ?_
 ·rw[qfe]at hx
  cases e:xs[k]? with
  |none=>rw[e]at hx;cases hx
  |some z=>
   rw[e]at hx
   obtain rfl:V.int z=x:=qfl.inj hx
   refine⟨hw _,?_⟩
   refine ht z _ _ (qfw e) sm ⟨_,hacc,?_,zay sm hD _,?_⟩
   ·have:=(qfc.mp e).1
    rw[qe9,qfx,qe9];exact zhc (by lia)
   ·rw[zac,qgi,qfe,e]
    simp
 ·rw[hacc,qe9,qf4 (by simp)]
theorem zyr{K:qfa}{a b:Addr}{xs ys:List V}{g:TG}{tb:TS}{D:qcp}{σ:St}{H:Hp}(Pv:Nat->St->Hp->Prop)(h0:Pv 0 σ H)(hl:∀i σ H,i<=min xs.length ys.length->Pv i σ H->SqL K H a xs/\SqL K H b ys)(hs:∀i x y T σ H,xs[i]?=some x->ys[i]?=some y->H T=none->Pv i σ H->g (.ref T) σ (upd H T (.tup [x,y])) λσ2 H2=>tb { D with nx:=Pv (i+1),ct:=Pv (i+1),bk:=D.nx } σ2 H2)(hd:∀σ H,Pv (min xs.length ys.length) σ H->D.nx σ H) :
  ∃W:Nat->Nat->St->Hp->Prop,(∃m,W 0 m σ H)/\∀i m σ H,W i m σ H ->
   ((Itz K a b).stop i H/\D.nx σ H)\/((Itz K a b).go i H/\∃N:St->Hp->Prop,(∀σ' H',N σ' H'->∃m',m'<m/\W (i+1) m' σ' H')/\∀x H',(Itz K a b).yld i H x H'->g x σ H' λσ2 H2=>tb { D with nx:=N,ct:=N,bk:=D.nx } σ2 H2):=by
 refine⟨λi m σ H=>m=min xs.length ys.length - i/\i<=min xs.length ys.length/\Pv i σ H,⟨_,rfl,qg2 _,h0⟩,?_⟩
 rintro i m σ H ⟨rfl,hi,p⟩
 obtain⟨qa,qb⟩:=hl i σ H hi p
 by_cases hlt:i<min xs.length ys.length
 ·have h1:i<xs.length:=by lia
  have h2:i<ys.length:=by lia
  refine .inr ⟨⟨xs,ys,xs[i],ys[i],qa,qb,by simp[h1],by simp[h2]⟩,Pv (i+1),λσ' H' p'=>⟨_,by lia,rfl,hlt,p'⟩,λx H' y=>?_⟩
  obtain⟨T,x',y',rfl,hT,rfl,e1,e2⟩:=y
  exact hs i x' y' T σ H (e1 _ qa) (e2 _ qb) hT p
 ·have e:i=min xs.length ys.length:=by lia
  subst e
  exact .inl ⟨⟨xs,ys,qa,qb,by lia⟩,hd σ H p⟩
theorem zjz{K:qfa}{a:Addr}{xs:List V}{g:TG}{tb:TS}{D:qcp}{σ:St}{H:Hp}(Pv:Nat->St->Hp->Prop)(h0:Pv 0 σ H)(hl:∀i σ H,i<=xs.length->Pv i σ H->SqL K H a xs)(hs:∀i x T σ H,xs[i]?=some x->H T=none->Pv i σ H->g (.ref T) σ (upd H T (.tup [.int (i:Nat),x])) λσ2 H2=>tb { D with nx:=Pv (i+1),ct:=Pv (i+1),bk:=D.nx } σ2 H2)(hd:∀σ H,Pv xs.length σ H->D.nx σ H) :
  ∃W:Nat->Nat->St->Hp->Prop,(∃m,W 0 m σ H)/\∀i m σ H,W i m σ H ->
   ((Ite K a).stop i H/\D.nx σ H)\/((Ite K a).go i H/\∃N:St->Hp->Prop,(∀σ' H',N σ' H'->∃m',m'<m/\W (i+1) m' σ' H')/\∀x H',(Ite K a).yld i H x H'->g x σ H' λσ2 H2=>tb { D with nx:=N,ct:=N,bk:=D.nx } σ2 H2):=by
 refine⟨λi m σ H=>m=xs.length - i/\i<=xs.length/\Pv i σ H,⟨_,rfl,qg2 _,h0⟩,?_⟩
 rintro i m σ H ⟨rfl,hi,p⟩
 have qa:=hl i σ H hi p
 by_cases hlt:i<xs.length
 ·refine .inr ⟨⟨xs,xs[i],qa,by simp[hlt]⟩,Pv (i+1),λσ' H' p'=>⟨_,by lia,rfl,hlt,p'⟩,λx H' y=>?_⟩
  obtain⟨T,x',rfl,hT,rfl,e1⟩:=y
  exact hs i x' T σ H (e1 _ qa) hT p
 ·have e:i=xs.length:=by lia
  subst e
  exact .inl ⟨⟨xs,qa,qfh _⟩,hd σ H p⟩
theorem zjd{X:Cx}(K:qfa)(i j:Nat){a b:Str}{pa pb pos:Pos}{k:Nat}(hc:X.calm=true)(hN:X.N.Nodup)(h1:X.N[i]?=some a)(h2:X.N[j]?=some b)(l1:X.env.scope.names.lookup a=some .local)(l2:X.env.scope.names.lookup b=some .local)(hK:X.K=K:=by rfl) :
  PG X (.Tuple [.Name a pa,.Name b pb] k pos) (gTup K 2 (zyq (zjm i) (zyq (zjm j) gNil))):=by
 subst hK
 exact pg_tup (n:=2) hc (ztc (zbg hN h1 (.inl l1) (.inr l1)) (ztc (zbg hN h2 (.inl l2) (.inr l2)) qds))
def SameT(H H':Hp):Prop:=∀b o,H b=some o->(∀ps,o≠.tbl ps)->H' b=some o
theorem Same.t{H H':Hp}(s:Same H H'):SameT H H':=λb o h _=>s b o h
theorem SameT.refl(H:Hp):SameT H H:=λ_ _ h _=>h
theorem SameT.trans{H H1 H2:Hp}(a:SameT H H1)(b:SameT H1 H2):SameT H H2:=λc o h n=>b c o (a c o h n) n
def zy9(c':Addr)(qual:Str):HO:=.ext λh=>h.CodeRec (.ref c') qual
def TabOk(P:Addr)(lp:Pos)(qual:Str)(H:Hp):Prop:=∃ps,H P=some (.tbl ps)/\TriplesOk ps.toList/\(codeAmong lp ps.toList=none\/∃c',codeAmong lp ps.toList=some (.ref c')/\H c'=some (zy9 c' qual))
theorem TabOk.same{P:Addr}{lp:Pos}{qual:Str}{H H':Hp}(t:TabOk P lp qual H)(s:Same H H'):TabOk P lp qual H':=by
 obtain⟨ps,h1,h2,h3⟩:=t
 refine⟨ps,s _ _ h1,h2,?_⟩
 rcases h3 with h3|⟨c',h3,h4⟩
 ·exact .inl h3
 ·exact .inr ⟨c',h3,s _ _ h4⟩
theorem ns_fun{h:Heap}{a:Addr}{m m':Str->Option Value}(x:h.Ns a m)(y:h.Ns a m'):m=m':=by
 obtain⟨o,es,ep,e,d,_,f⟩:=x
 obtain⟨o',es',ep',e',d',_,f'⟩:=y
 rw[e]at e';cases e'
 rw[d]at d';cases d'
 funext z
 rw[<-f z,<-f' z]
section
variable{X:Cx}{pins:List (Addr×Obj)}{σ:St}{H:Hp}{s:Shared}
theorem Inv.ledger{h':Heap}{m:Str->Option Value}{t:Nat}(I:Inv X pins σ H s)(hm:s.heap.Ns X.env.locals m)(F:Fr X.base X.env.locals h' m)(N:News X.base X.env.locals h' (zlq X.base s.heap X.env.locals)):Inv X pins σ H { s with heap:=h',toks:=t }:=by
 have k:∀b o,b≠X.env.locals->s.heap.get? b=some o->h'.get? b=some o:=λb o hb e=>by
  cases q:X.base.get? b with
  |some u=>
   have:=I.bk b u q
   rw[e]at this;cases this
   exact F.keep b _ q
  |none=>exact (N (b,o) (zk2 hb q e)).1
 refine I.step (g':=s.gens) (d':=s.drawn) (ch:=[]) (λ_ z=>nomatch z) (λb o hL _ _ e _=>k b o hL e) (λb o hL _ _ e _=>⟨o.slots,k b o hL e⟩) (λ_ _ _ _ n=>n) (λb o _ e=>?_) (λ_ _ e=>e) (λ_ _ _ e=>e) (λb ps e=>⟨#[],by rw[e];simp⟩) (λm' hm'=>?_) (λb u e=>?_) I.bare
 ·by_cases hb:b=X.env.locals
  ·obtain⟨o',_,_,e',_⟩:=F.ns
   exact⟨o',by rw[hb];exact e'⟩
  ·exact⟨o,k b o hb e⟩
 ·rw[ns_fun hm' hm];exact F.ns
 ·refine (I.hok b u e).stay (λc v hc q=>k c v ?_ q) (λ_ q=>q) λ_ _ q=>q
  intro z
  have hf:=I.free
  rcases hc with hc|hc
  ·rw[<-z,hc,e]at hf;cases hf
  ·rw[<-z,hc]at hf;cases hf
abbrev lamScope:Scope:={ kind:=.function,names:=[("index",.local),("rest",.free),("abs",.globalImplicit)],isGenerator:=false,isCoroutine:=false,more:=[] }
abbrev zk9(p1 p2 p3 p4 p5:Pos):Expr:=.Call (.Name "abs" p1) [.Subscript (.Name "rest" p2) (.Name "index" p3) p4] [] p5
abbrev zla(p:Pos):Arguments:={ posonlyargs:=[],args:=[{ arg:="index",annotation:=none,pos:=p }],vararg:=none,kwonlyargs:=[],kw_defaults:=[],kwarg:=none,defaults:=[] }
def zg2(xs:List Int)(n:Int):Int:=let z:=xs.getD n.toNat 0;if z<0 then -z else z
theorem ztr{pa p1 p2 p3 p4 p5:Pos}{qual:Str}{pm ctv:Value}{c' q a l cr:Addr}{xs ns:List Int}{clos:List (Str×Addr)}{k:Nat}{Q:VK}(hr:Room k X.A)(I:Inv X pins σ H s)(hab:X.mg "abs"=none)(hq:s.heap.get? q=some (PySem.W.kla_obj "<lambda>" qual (zla pa) (zk9 p1 p2 p3 p4 p5) lamScope clos pm c' ctv))(hqL:q≠X.env.locals)(hcd:s.heap.CodeRec (.ref c') qual)(hcL:c'≠X.env.locals)(hcl:clos.lookup ("rest":Str)=some cr)(hcell:s.heap.IsCell cr (some (.ref a)))(hcrL:cr≠X.env.locals)(ha:H a=some (.lst (xs.map V.int)))(hl:H l=some (.lst (ns.map V.int)))(hne:0<ns.length)(hb:∀n∈ns,0<=n/\n<xs.length)(hQ:∀(i:Nat) (n:Int),ns[i]?=some n->(∀j m,ns[j]?=some m->zg2 xs n<=zg2 xs m/\(j<i->zg2 xs n<zg2 xs m))->Q (.int n) H) :
  wpAny (model X.prog X.w) X.A (call (.builtin "min") [.ref l] [(Str.ofString "key",.ref q)]) (EP X pins σ Q) X.xe s:=by
 obtain⟨m,hn,hlk⟩:=id I.loc
 have F:Fr X.base X.env.locals s.heap m:=⟨hn,I.bk,qgn I.ok.bsz I.ok.above⟩
 obtain⟨lz,lits,ln,lr,lo⟩:=I.hok l _ hl
 obtain⟨az,aits,an,ar,ao⟩:=I.hok a _ ha
 have lL:l≠X.env.locals:=λz=>by have:=I.free;rw[<-z,hl]at this;cases this
 have aL:a≠X.env.locals:=λz=>by have:=I.free;rw[<-z,ha]at this;cases this
 have kp:∀h,Fr X.base X.env.locals h m->∀own,News X.base X.env.locals h (zlq X.base s.heap X.env.locals++own)->∀b o,b≠X.env.locals->s.heap.get? b=some o->h.get? b=some o:=λh F' own N b o hb' e=>by
  cases z:X.base.get? b with
  |some u=>
   have:=I.bk b u z
   rw[e]at this;cases this
   exact F'.keep b _ z
  |none=>exact (N (b,o) (qgq _ (zk2 hb' z e))).1
 have hlen:ns.length=lits.length:=by have:=lr.length;rwa [qe9]at this
 have alen:xs.length=aits.length:=by have:=ar.length;rwa [qe9]at this
 refine kmk_min (λi=>zg2 xs (ns.getD i 0)) (vs:=lits) hr.hd F qbc (λh F' N=>?_) (by lia) (λi v hv h tk own F' N'=>?_) (λi v h' tk' hv hbest F' N'=>?_)
 ·exact⟨_,kp h F' [] (by rw[qgb];exact N) l _ lL lo,rfl,_,rfl⟩
 ·
  have hi:i<ns.length:=by have:=(qfc.mp hv).1;lia
  obtain⟨u,hu,ru⟩:=lr.get (i:=i) (x:=.int ns[i]) (by rw[qfe,qf2 hi];rfl)
  rw[hv]at hu;cases hu
  obtain⟨t,rfl⟩:=ru
  have K:=kp h F' own N'
  obtain⟨b0,b1⟩:=hb ns[i] (qig hi)
  obtain⟨cc,oc,vsc,tc,e1,e2,e3,e4⟩:=hcd
  cases e1
  have hcd':h.CodeRec (.ref c') qual:=⟨c',oc,vsc,tc,rfl,K _ _ hcL e2,e3,e4⟩
  refine wpAny_call (PySem.W.kla_callFunE (by exact hr.depth) (K _ _ hqL hq) rfl rfl rfl rfl hcd' ?_)
  rw[show bindArgs (PySem.W.kla_fn "<lambda>" qual (zla pa) (zk9 p1 p2 p3 p4 p5) lamScope clos pm (.ref c') ctv) ⟨[.int ns[i] t],[]⟩=pure [(("index":Str),.int ns[i] t)] from rfl]
  refine wpAny_pure (wpAny_newFunctionEnv (show ∀x∈lamScope.names,x.2≠NameKind.cell from by decide) (by intro x hx;rw[qfq.mp hx];rfl) (λh₁ hns hsb=>⟨?_,?_⟩) rfl)
  ·have kk:∀b o,h.get? b=some o->h₁.get? b=some o:=λb o e=>(hsb.2 b (qf6 (Heap.lt_size e))).trans (Heap.get?_push_of_some _ e)
   exact I.ok.mod.nolimit.keeps λb o e=>kk b o (F'.keep b o e)
  ·have kk:∀b o,h.get? b=some o->h₁.get? b=some o:=λb o e=>(hsb.2 b (qf6 (Heap.lt_size e))).trans (Heap.get?_push_of_some _ e)
   obtain⟨mb,g1,g2⟩:=I.mod.blt
   have gk:∀b o,X.base.get? b=some o->h₁.get? b=some o:=λb o e=>kk b o (F'.keep b o e)
   refine PySem.W.kla_codeExpr ?_
   refine wpAny_Call_Name_kw (Calls.Name_function_global rfl rfl (Calls.loadGlobal_builtin (I.mod.glob.keeps gk) hab (g1.keeps gk) ((g2 "abs" (by decide)).trans (show bootBuiltins "abs"=some (.builtin "abs") from by decide +kernel)) ?_))
   refine PyProof.Rows.callWith_builtin1 (Calls.spliced_cons (Subscript_ ?_))
   obtain⟨ocr,hcr,dcr⟩:=hcell
   refine wpAny_Name (wpAny_loadName_free rfl rfl hcl (v:=.ref a) ⟨ocr,kk _ _ (K _ _ hcrL hcr),dcr⟩ ?_) (by decide)
   refine wpAny_Name (wpAny_loadName_local rfl rfl hns (v:=.int ns[i] t) rfl ?_) (by decide)
   obtain⟨ux,hux,rux⟩:=ar.get (i:=ns[i].toNat) (x:=.int (xs.getD ns[i].toNat 0)) (by
    have:ns[i].toNat<xs.length:=by lia
    rw[qfe,qf2 this];simp[this])
   obtain⟨tx,rfl⟩:=rux
   have ao':h₁.get? a=some { cls:=.type "list",data:=.seq aits.toArray an }:=kk _ _ (K _ _ aL ao)
   have hsz:xs.length<=sizeLine:=by have:=az;rwa [qe9]at this
   have h24:sizeLine=16777216:=sizeLine_eq
   refine item_listR (items:=aits.toArray) ⟨_,ao',rfl,_,rfl⟩ b0 (by lia) (x:=.int (xs.getD ns[i].toNat 0) tx) (by simpa using hux) ?_
   refine Calls.spliced_nil (call_abs_int λu2 tk2=>?_)
   refine⟨h₁,tk2,u2,rfl,?_,⟨?_,gk,F'.above⟩,λp hp=>⟨kk _ _ (N' p hp).1,(N' p hp).2⟩⟩
   ·have:ns.getD i 0=ns[i]:=by simp[hi]
    rw[this]
    rfl
   ·obtain⟨oL,es,ep,eL,r⟩:=F'.ns
    exact⟨oL,es,ep,kk _ _ eL,r⟩
 ·have hi:i<ns.length:=by have:=(qfc.mp hv).1;lia
  obtain⟨u,hu,ru⟩:=lr.get (i:=i) (x:=.int ns[i]) (by rw[qfe,qf2 hi];rfl)
  rw[hv]at hu;cases hu
  refine⟨.int ns[i],H,Inv.ledger I hn F' N',ru,hQ i ns[i] (qf2 hi) λj mm hj=>?_⟩
  obtain⟨hj1,hj2⟩:=qfc.mp hj
  have:=hbest j (by lia)
  have g1:ns.getD i 0=ns[i]:=by simp[hi]
  have g2:ns.getD j 0=mm:=by simp[hj1,hj2]
  rw[g1,g2]at this
  exact this
end
theorem zi4{a b:Int}{t u:Tok}{c:Value}:∀l:List Value,TriplesOk l->TriplesOk (l++[.int a t,.int b u,c])
 |[],_=>trivial
 |.int _ _::.int _ _::_::rest,h=>zi4 rest h
section
variable{X:Cx}{pins:List (Addr×Obj)}{σ:St}{H:Hp}{s:Shared}
theorem Inv.table{P c':Addr}{ps more:Array Value}{qual:Str}{h':Heap}{o:Obj}{t:Nat}(I:Inv X pins σ H s)(hP:H P=some (.tbl ps))(hx:Heap.ExtBut P s.heap h')(hge:s.heap.objs.size<=c')(hrec:h'.CodeRec (.ref c') qual)(htb:h'.get? P=some (PySem.W.tabObj (ps++more))):Inv X pins σ (upd (upd H P (.tbl (ps++more))) c' (zy9 c' qual)) { s with heap:=h'.push o,toks:=t }:=by
 have hc:H c'=none:=I.hok.fresh hge
 have hcP:P≠c':=zah hP hc
 have k:∀b u,b≠P->s.heap.get? b=some u->(h'.push o).get? b=some u:=λb u hb e=>Heap.get?_push_of_some _ (hx b u hb e)
 have ne:∀b u,s.heap.get? b=some u->b≠c':=λb u e=>qf6 (qfn (Heap.lt_size e) hge)
 have kt:∀b u,H b=some u->(∀ps,u≠.tbl ps)->(upd (upd H P (.tbl (ps++more))) c' (zy9 c' qual)) b=some u:=λb u e n=>by
  rw[zai (zah e hc),zai (λz=>by rw[z,hP]at e;cases e;exact n _ rfl)];exact e
 refine I.un (t':=t) ⟨λb u e n _ _=>k b u (λz=>by rw[z,hP]at n;cases n) e,λb u e n _ _=>⟨u.slots,k b u (λz=>by rw[z,hP]at n;cases n) e⟩,λb u e n _=>?_,λb u e _=>?_,λb xs e=>kt _ _ e (λ_ z=>nomatch z),λb ob u e=>kt _ _ e (λ_ z=>nomatch z),λb qs e=>?_⟩ λb u e=>?_
 ·rw[zai (ne b u e),zai (λz=>by rw[z,hP]at n;cases n)];exact n
 ·by_cases hb:b=P
  ·exact⟨_,by rw[hb];exact Heap.get?_push_of_some _ htb⟩
  ·exact⟨u,k b u hb e⟩
 ·by_cases hb:b=P
  ·subst hb
   rw[hP]at e;cases e
   exact⟨more,by rw[zai hcP,zac]⟩
  ·exact⟨#[],by rw[zai (zah e hc),zai hb,e];simp⟩
 ·by_cases hb:b=c'
  ·subst hb
   rw[zac]at e;cases e
   obtain⟨c2,oc,vs,tc,e1,e2,e3,e4⟩:=hrec
   cases e1
   exact⟨⟨_,oc,vs,tc,rfl,Heap.get?_push_of_some _ e2,e3,e4⟩,⟨oc,Heap.get?_push_of_some _ e2⟩,λh1 h2 ⟨c3,oc,vs,tc,e1,e2,e3,e4⟩ kk=>by cases e1;exact⟨_,oc,vs,tc,rfl,kk _ e2,e3,e4⟩⟩
  ·rw[zai hb]at e
   by_cases hbP:b=P
   ·subst hbP
    rw[zac]at e;cases e
    exact Heap.get?_push_of_some _ htb
   ·rw[zai hbP]at e
    refine (I.hok b u e).stay (λc v hc' q=>k c v ?_ q) (λc z=>kt _ _ z (λ_ z=>nomatch z)) λc xs z=>kt _ _ z (λ_ z=>nomatch z)
    intro z
    rcases hc' with hc'|hc'
    ·exact hbP (hc'▸z)
    ·rw[z,hP]at hc';cases hc'
end
def tMK(P:Addr)(lp:Pos)(qual:Str):TE:=λσ H Q=>∃(a l:Addr)(xs ns:List Int),σ[0]?=some (some (.ref a))/\σ[1]?=some (some (.ref l))/\H a=some (.lst (xs.map V.int))/\H l=some (.lst (ns.map V.int))/\0<ns.length/\(∀n∈ns,0<=n/\n<xs.length)/\TabOk P lp qual H ∧
 ∀(i:Nat)(n:Int)(H':Hp),ns[i]?=some n->(∀j m,ns[j]?=some m->zg2 xs n<=zg2 xs m/\(j<i->zg2 xs n<zg2 xs m))->SameT H H'->TabOk P lp qual H'->Q (.int n) H'
theorem zxa{X:Cx}{c P:Addr}{k:Nat}{qual:Str}{p pi pa p1 p2 p3 p4 p5 lpos kpos pos:Pos}(hcode:X.env.code=.ref c)(C:PySem.W.CodeHd X.base c P)(hB:X.base.BuiltinsAt X.mg P)(hr:Room k X.A)(hgm:Gl X "min")(hmin:X.mg "min"=none)(hab:X.mg "abs"=none)(h0:X.N[0]?=some ("rest":Str))(k0:X.env.scope.names.lookup ("rest":Str)=some .cell)(h1:X.N[1]?=some ("indexes":Str))(k1:X.env.scope.names.lookup ("indexes":Str)=some .local)(hqual:X.env.qual++"<lambda>"=qual) :
  PE X (.Call (.Name "min" p) [.Name "indexes" pi] [⟨some "key",.Lambda (zla pa) (zk9 p1 p2 p3 p4 p5) lamScope lpos,kpos⟩] pos) (tMK P lpos qual):=by
 intro pins s σ H Q I h
 obtain⟨a,l,xs,ns,s0,s1,ha,hl,hne,hb,⟨ps,hP,tp,tc⟩,q⟩:=h
 refine wpAny_Call_Name_kw (zhz I hgm hmin (show bootBuiltins "min"=some (.builtin "min") from by decide +kernel) ?_)
 have pa1:PA X [.Name "indexes" pi] (zz0 (tVar 1) qcz):=zaa (qca h1 (.inl k1)) zae
 refine PyProof.Rows.callWith_kw (thn (pa1 pos pins s σ H (λvs H1=>vs=[.ref l]/\H1=H) I ⟨_,s1,rfl,rfl⟩) λus s2 ⟨vs,H1,I1,r,ev,eH⟩=>?_)
 subst ev eH
 obtain rfl:us=[.ref l]:=by
  cases r with
  |cons r rr=>cases rr;cases r;rfl
 refine PyProof.Rows.kws_cons (PySem.W.kla_eval rfl ?_)
 rw[hqual]
 obtain⟨m,hn,hlk⟩:=id I1.loc
 obtain⟨u,ru,lu⟩:=hlk 0 "rest" _ h0 s0 (.inr (.inl k0))
 obtain rfl:u=Value.ref a:=ru
 have hcellE:∃cr,X.env.cells.lookup ("rest":Str)=some cr/\s2.heap.IsCell cr (some (.ref a)):=by
  rcases lu with ⟨z,_⟩|⟨_,cr,e1,e2⟩
  ·have z:X.env.scope.names.lookup ("rest":Str)=some .local:=z
   rw[k0]at z;cases z
  ·exact⟨cr,e1,e2⟩
 obtain⟨cr,hcr,hcell⟩:=hcellE
 have hcrL:cr≠X.env.locals:=I1.cne _ _ hcr
 have hfree:∀y∈lamScope.names,y.2=.free->∃c,X.env.cells.lookup y.1=some c:=λy hy e=>by
  rcases qfo.mp hy with rfl|hy
  ·cases e
  ·rcases qfo.mp hy with rfl|hy
   ·exact⟨cr,hcr⟩
   ·rw[qfq.mp hy]at e;cases e
 have hclos:=ziu hfree
 have hlook:(za2 X.env.cells lamScope.names []).lookup ("rest":Str)=some cr:=by
  simp only[za2,hcr]
  rfl
 have hbs:s2.heap.BuiltinsAt X.mg P:=by
  obtain⟨bm,o,b1,b2,b3,b4,b5,b6⟩:=hB
  exact⟨bm,o,b1,b2,b3,b4,I1.bk _ _ b5,b6⟩
 have hgs:s2.heap.Ns mainGlobals X.mg:=I1.mod.glob.keeps I1.bk
 have hPo:s2.heap.get? P=some (PySem.W.tabObj ps):=I1.hok P _ hP
 have hgP:mainGlobals≠P:=λz=>by
  obtain⟨o,es,ep,e,hd,_⟩:=hgs
  rw[z,hPo]at e;cases e;cases hd
 have PL:P≠X.env.locals:=λz=>by have:=I1.free;rw[<-z,hP]at this;cases this
 have aL:∀{b:Addr}{o:HO},H1 b=some o->b≠X.env.locals:=λ{b o} e z=>by have:=I1.free;rw[<-z,e]at this;cases this
 rcases tc with tc|⟨c',tc,hc'⟩
 ·refine PySem.W.kla_makeFunction hclos I1.ok.glob hgs hcode (C.keeps I1.bk) hPo tp tc hgP hbs λc' ctv h' tk hx hge hlt hrec htb=>?_
  have I2:=Inv.table (o:=PySem.W.kla_obj "<lambda>" qual (zla pa) (zk9 p1 p2 p3 p4 p5) lamScope (za2 X.env.cells lamScope.names []) ((X.mg "__name__").getD .none) c' ctv) (t:=tk) I1 hP hx hge hrec htb
  have hc0:H1 c'=none:=I1.hok.fresh hge
  have sT:SameT H1 (upd (upd H1 P (.tbl (ps++#[rawInt lpos.line,rawInt lpos.col,.ref c']))) c' (zy9 c' qual)):=λb o e n=>by
   rw[zai (zah e hc0),zai (λz=>by rw[z,hP]at e;cases e;exact n _ rfl)];exact e
  have tb:TabOk P lpos qual (upd (upd H1 P (.tbl (ps++#[rawInt lpos.line,rawInt lpos.col,.ref c']))) c' (zy9 c' qual)):=
   ⟨_,by rw[zai (zah hP hc0),zac],by rw[qjd];exact zi4 _ tp,.inr ⟨c',by rw[qjd];exact codeAmong_snoc _ tp tc,zac⟩⟩
  refine PyProof.Rows.kws_nil ?_
  have lt2:X.env.locals<s2.heap.objs.size:=I1.lt
  refine ztr (cr:=cr) (ctv:=ctv) hr I2 hab (Heap.get?_push_size _ rfl) (qhm (qkr (qfn lt2 hge) hlt)) (hrec.push _) (qhm (qfn lt2 hge)) hlook ?_ hcrL (sT _ _ ha (λ_ z=>nomatch z)) (sT _ _ hl (λ_ z=>nomatch z)) hne hb λi n h3 h4=>q i n _ h3 h4 sT tb
  obtain⟨oc,e1,e2⟩:=hcell
  exact⟨oc,Heap.get?_push_of_some _ (hx _ _ (λz=>by rw[z,hPo]at e1;cases e1;cases e2) e1),e2⟩
 ·have hcd:s2.heap.CodeRec (.ref c') qual:=(I1.hok c' _ hc').1
  refine PySem.W.kla_makeFunctionHit hclos I1.ok.glob hgs hcode (C.keeps I1.bk) hPo tp tc hbs λctv h' tk hk hsz=>?_
  have I2:=I1.kept (h':=h'.push { cls:=.type "function",data:=.func (PySem.W.kla_fn "<lambda>" qual (zla pa) (zk9 p1 p2 p3 p4 p5) lamScope (za2 X.env.cells lamScope.names []) ((X.mg "__name__").getD .none) (.ref c') ctv) }) (t':=tk) λb o e=>Heap.get?_push_of_some _ (hk b o e)
  refine PyProof.Rows.kws_nil ?_
  refine ztr (cr:=cr) (ctv:=ctv) hr I2 hab (Heap.get?_push_size _ rfl) (qhm (qfn I1.lt hsz)) (hcd.keeps λb o e=>Heap.get?_push_of_some _ (hk b o e)) (aL hc') hlook ?_ hcrL ha hl hne hb λi n h3 h4=>q i n _ h3 h4 (SameT.refl _) ⟨ps,hP,tp,.inr ⟨c',tc,hc'⟩⟩
  obtain⟨oc,e1,e2⟩:=hcell
  exact⟨oc,Heap.get?_push_of_some _ (hk _ _ e1),e2⟩
end L2
namespace PySem
open Sem (wp)
abbrev zc6(h:Heap)(z TI TO:Addr)(f0:Value)(f1:Bool):Prop:=
 h.get? z=some { cls:=.type "zip",dict:=none,data:=.fields #[f0,.bool f1,.bool false,.ref TI,.ref TO],slots:=#[] }
abbrev ziS1(h:Heap)(l1:Addr):Heap:=h.push { cls:=.type "list_iterator",data:=.fields #[.ref l1,.int 0 0] }
abbrev ziS2(h:Heap)(l1:Addr)(x:Str)(t:Tok):Heap:=(ziS1 h l1).push { cls:=.type "str_ascii_iterator",data:=.fields #[.str x t,.int 0 0] }
abbrev ziS3(h:Heap)(l1:Addr)(x:Str)(t:Tok):Heap:=(ziS2 h l1 x t).push { cls:=.type "tuple",data:=.seq #[.ref h.objs.size,.ref (ziS1 h l1).objs.size] }
abbrev ziS4(h:Heap)(l1:Addr)(x:Str)(t:Tok):Heap:=(ziS3 h l1 x t).push { cls:=.type "tuple",data:=.seq #[.none,.none] }
abbrev qcr(h:Heap)(l1:Addr)(x:Str)(t:Tok):Heap:=(ziS4 h l1 x t).push { cls:=.type "zip",data:=.fields #[.none,.bool false,.bool false,.ref (ziS2 h l1 x t).objs.size,.ref (ziS3 h l1 x t).objs.size] }
theorem zma(l1:Addr)(xs:Array Value)(x:Str)(t:Tok)(ha:x.cps.all (·<128)=true) :
  Meets (Builtin.«zip.__new__» ⟨[.type "zip",.ref l1,.str x t],[]⟩) (λ_ R s=>s.heap.IsList l1 xs ∧
   R (.ok (.ret (.ref (ziS4 s.heap l1 x t).objs.size))) { s with heap:=qcr s.heap l1 x t }):=
 .of_wp λprog w A R s h=>by
  obtain⟨hp,g,d,tk,os⟩:=s;obtain⟨hl1,h⟩:=h
  have hsub:=sub_zip
  have hL1:Heap.IsList (Shared.heap ⟨hp,g,d,tk,os⟩) l1 xs:=hl1
  unfold Builtin.«zip.__new__»
  iterate 12 (first|(with_reducible apply wpAny_pyIter_ascii ha)|(with_reducible apply wpAny_pyIter_list hL1)|wp_step)
  unfold Builtin.SmallTypes.iterAll
  refine wpAny_bind ?_
  simp only[qit,qic]
  refine wpAny_bind (wpAny_bind (wpAny_holding (wpAny_pyIter_list hL1 (wpAny_pure ?_))))
  refine wpAny_bind (wpAny_bind (wpAny_holding (wpAny_pyIter_ascii ha (wpAny_pure (wpAny_pure (wpAny_pure ?_))))))
  refine wpAny_bind (wpAny_newTuple ?_ (by show 2<=sizeLine;decide))
  refine wpAny_bind (wpAny_newTuple ?_ (by show 2<=sizeLine;decide))
  refine wpAny_bind ?_
  show wpAny _ _ (newObj (.type "zip") (.fields #[.none,.bool false,.bool false,_,_])) _ _ _
  refine wpAny_newObj_type ?_ (by first|(show 5<=sizeLine;decide)|trivial|size_fits)
  exact wpAny_pure ⟨_,rfl,h⟩
section
variable{prog:Program}{w:World}{A:Around}{E:Value->Shared->Prop}{s:Shared}
theorem zvo{l1:Addr}{xs:Array Value}{x:Str}{t:Tok}{Q:Value->Shared->Prop}(hl1:s.heap.IsList l1 xs)(ha:x.cps.all (·<128)=true)(h:∀h',zc6 h' (s.heap.objs.size+4) (s.heap.objs.size+2) (s.heap.objs.size+3) .none false->IsPair h' (s.heap.objs.size+2) (.ref s.heap.objs.size) (.ref (s.heap.objs.size+1)) ->
   IsPair h' (s.heap.objs.size+3) .none .none->h'.IsListIter s.heap.objs.size l1 0->h'.IsStrIter (s.heap.objs.size+1) "str_ascii_iterator" x t 0->h'.objs.size=s.heap.objs.size+5 ->
   (∀c o,s.heap.get? c=some o->h'.get? c=some o)->Q (.ref (s.heap.objs.size+4)) { s with heap:=h' }) :
  wpAny (model prog w) A (call (.type "zip") [.ref l1,.str x t]) Q E s:=by
 refine callType_new F.called_zip (by decide) (F.typeCall_zip_2 _ _) (F.newCall_zip_2 _ _) (λobj=>F.args_object_init_3 obj _ _) F.entry_zip_new
  (zma l1 xs x t ha) ⟨hl1,?_⟩
 have z1:(ziS1 s.heap l1).objs.size=s.heap.objs.size+1:=Heap.size_push ..
 have z2:(ziS2 s.heap l1 x t).objs.size=s.heap.objs.size+2:=by rw[Heap.size_push,z1]
 have z3:(ziS3 s.heap l1 x t).objs.size=s.heap.objs.size+3:=by rw[Heap.size_push,z2]
 have z4:(ziS4 s.heap l1 x t).objs.size=s.heap.objs.size+4:=by rw[Heap.size_push,z3]
 have z5:(qcr s.heap l1 x t).objs.size=s.heap.objs.size+5:=by rw[Heap.size_push,z4]
 have g5:(qcr s.heap l1 x t).get? (ziS4 s.heap l1 x t).objs.size=some _:=Heap.get?_push_size _ rfl
 have g4:(qcr s.heap l1 x t).get? (ziS3 s.heap l1 x t).objs.size=some _:=Heap.get?_push_of_some _ (Heap.get?_push_size _ rfl)
 have g3:(qcr s.heap l1 x t).get? (ziS2 s.heap l1 x t).objs.size=some _:=Heap.get?_push_of_some _ (Heap.get?_push_of_some _ (Heap.get?_push_size _ rfl))
 have g2:(qcr s.heap l1 x t).get? (ziS1 s.heap l1).objs.size=some _:=Heap.get?_push_of_some _ (Heap.get?_push_of_some _ (Heap.get?_push_of_some _ (Heap.get?_push_size _ rfl)))
 have g1:(qcr s.heap l1 x t).get? s.heap.objs.size=some _:=Heap.get?_push_of_some _ (Heap.get?_push_of_some _ (Heap.get?_push_of_some _ (Heap.get?_push_of_some _ (Heap.get?_push_size _ rfl))))
 show _/\_
 rw[z2,z3,z4]at g5
 rw[z1,z2]at g3
 rw[z3]at g4
 rw[z1]at g2
 rw[z4]
 exact⟨⟨_,g5,rfl⟩,h _ g5 g3 g4 ⟨_,g1,rfl,rfl⟩ ⟨_,g2,rfl,rfl⟩ z5 λc o x=>
  Heap.get?_push_of_some _ (Heap.get?_push_of_some _ (Heap.get?_push_of_some _ (Heap.get?_push_of_some _ (Heap.get?_push_of_some _ x))))⟩
structure znh(z TI TO i1 i2 l1:Addr):Prop where
 TIz:TI≠z
 TOz:TO≠z
 i1z:i1≠z
 i2z:i2≠z
 TITO:TI≠TO
 TIi1:TI≠i1
 TIi2:TI≠i2
 TOi1:TO≠i1
 TOi2:TO≠i2
 i12:i1≠i2
 l1z:l1≠z
 l1TO:l1≠TO
 l1i1:l1≠i1
 l1i2:l1≠i2
theorem zuc{z TI TO i1 i2 l1:Addr}{k1 k2 c:Nat}{xs:Array Value}{x a b:Value}{y:Str}{t:Tok}{Q:Option Value->Shared->Prop}(D:znh z TI TO i1 i2 l1)(hz:zc6 s.heap z TI TO .none false)(hTI:IsPair s.heap TI (.ref i1) (.ref i2))(hTO:IsPair s.heap TO a b)(h1:s.heap.IsListIter i1 l1 k1)(h2:s.heap.IsStrIter i2 "str_ascii_iterator" y t k2)(hl1:s.heap.IsList l1 xs)(hx:xs[k1]?=some x)(hy:y.cps[k2]?=some c)(hQ:∀h',zc6 h' z TI TO (rawInt s.heap.objs.size) false->h'.IsListIter i1 l1 (k1+1)->h'.IsStrIter i2 "str_ascii_iterator" y t (k2+1)->IsPair h' s.heap.objs.size x (.str ⟨#[c]⟩ s.toks)->h'.objs.size=s.heap.objs.size+1 ->
   (∀c o,c≠z->c≠TO->c≠i1->c≠i2->s.heap.get? c=some o->h'.get? c=some o)->Q (some (.ref s.heap.objs.size)) { s with heap:=h',toks:=s.toks+1 }) :
  wpAny (model prog w) A (pyNext (.ref z)) Q E s:=by
 have hT:s.TypeIs (.ref z) "zip":=⟨_,hz,rfl⟩
 unfold pyNext
 refine wpAny_bind (wpAny_attempt (wpAny_callSpecial?_slot (name:=Str.ofString "__next__") hT F.slot_zip_next
  (wpAny_call_entry F.slot_zip_next hT F.entry_zip_next ?_ (F.args_zip_next_1 _))))
 show wpAny _ _ (field (.ref z) 2 >>= _) _ _ _
 refine wpAny_bind (wpAny_field hz rfl (x:=.bool false) rfl ?_)
 show wpAny _ _ (field (.ref z) 3 >>= _) _ _ _
 refine wpAny_bind (wpAny_field hz rfl (x:=.ref TI) rfl ?_)
 refine wpAny_bind (wpAny_seqItems hTI rfl ?_)
 show wpAny _ _ (Builtin.SmallTypes.ownedTupleIsFree (.ref z) >>= _) _ _ _
 refine wpAny_bind ?_
 unfold Builtin.SmallTypes.ownedTupleIsFree
 refine wpAny_bind (wpAny_field hz rfl (x:=.none) rfl (wpAny_pure ?_))
 simp only[if_true]
 refine wpAny_bind (wpAny_rule ?_)
 refine wpAny_bind (wpAny_field hz rfl (x:=.ref TO) rfl ?_)
 refine wpAny_bind (wpAny_setField_rec hz (by simp) λh₁ hz₁ hs₁=>?_)
 replace hz₁:zc6 h₁ z TI TO .ellipsis false:=hz₁
 refine wpAny_bind ?_
 simp only[List.zipIdx_cons,List.zipIdx_nil,qit,qic]
 refine wpAny_bind (wpAny_bind (wpAny_onRaise ?_))
 show wpAny _ _ (Builtin.SmallTypes.nextOf (.ref i1) >>= _) _ _ _
 refine wpAny_bind (wpAny_nextOf_list_item (h1.extBut hs₁.extBut D.i1z) (hl1.extBut hs₁.extBut D.l1z) hx λh₂ h1₂ hs₂=>wpAny_pure ?_)
 have hTO₂:IsPair h₂ TO a b:=hs₂.extBut _ _ D.TOi1 (hs₁.extBut _ _ D.TOz hTO)
 refine wpAny_bind (wpAny_seqItems hTO₂ rfl ?_)
 refine wpAny_bind (wpAny_updateSeq_pair hTO₂ λh₃ hTO₃ hs₃=>?_)
 replace hTO₃:IsPair h₃ TO x b:=hTO₃
 refine wpAny_bind (wpAny_letGo (wpAny_pure ?_))
 refine wpAny_bind (wpAny_bind (wpAny_onRaise ?_))
 show wpAny _ _ (Builtin.SmallTypes.nextOf (.ref i2) >>= _) _ _ _
 refine wpAny_bind (wpAny_nextOf_ascii_item (((h2.extBut hs₁.extBut D.i2z).extBut hs₂.extBut D.i12.symm).extBut hs₃.extBut D.TOi2.symm) hy λh₄ h2₄ hs₄=>wpAny_pure ?_)
 have hTO₄:IsPair h₄ TO x b:=hs₄.extBut _ _ D.TOi2 hTO₃
 refine wpAny_bind (wpAny_seqItems hTO₄ rfl ?_)
 refine wpAny_bind (wpAny_updateSeq_pair hTO₄ λh₅ hTO₅ hs₅=>?_)
 replace hTO₅:IsPair h₅ TO x (.str ⟨#[c]⟩ s.toks):=hTO₅
 refine wpAny_bind (wpAny_letGo (wpAny_pure (wpAny_pure ?_)))
 refine wpAny_bind (wpAny_seqItems hTO₅ rfl ?_)
 refine wpAny_bind (wpAny_newTuple ?_)
 have hsz:h₅.objs.size=s.heap.objs.size:=by rw[hs₅.1,hs₄.1,hs₃.1,hs₂.1,hs₁.1]
 have hz₅:zc6 h₅ z TI TO .ellipsis false:=hs₅.extBut _ _ D.TOz.symm (hs₄.extBut _ _ D.i2z.symm (hs₃.extBut _ _ D.TOz.symm (hs₂.extBut _ _ D.i1z.symm hz₁)))
 have hk₅:∀c o,c≠z->c≠TO->c≠i1->c≠i2->s.heap.get? c=some o->h₅.get? c=some o:=λc o c1 c2 c3 c4 e=>
  hs₅.extBut _ _ c2 (hs₄.extBut _ _ c4 (hs₃.extBut _ _ c2 (hs₂.extBut _ _ c3 (hs₁.extBut _ _ c1 e))))
 have h1₅:h₅.IsListIter i1 l1 (k1+1):=((h1₂.extBut hs₃.extBut D.TOi1.symm).extBut hs₄.extBut D.i12).extBut hs₅.extBut D.TOi1.symm
 have h2₅:h₅.IsStrIter i2 "str_ascii_iterator" y t (k2+1):=h2₄.extBut hs₅.extBut D.TOi2.symm
 have hzlt:z<h₅.objs.size:=Heap.lt_size hz₅
 show wpAny _ _ (Builtin.SmallTypes.ownedTupleHandOut (.ref z) (.ref h₅.objs.size) >>= _) _ _ _
 refine wpAny_bind ?_
 unfold Builtin.SmallTypes.ownedTupleHandOut
 have hz₆:zc6 (h₅.push { cls:=.type "tuple",data:=.seq #[x,.str ⟨#[c]⟩ s.toks] }) z TI TO .ellipsis false:=Heap.get?_push_of_some _ hz₅
 refine wpAny_bind (wpAny_setField_rec hz₆ (by simp) λh₇ hz₇ hs₇=>?_)
 replace hz₇:zc6 h₇ z TI TO (rawInt h₅.objs.size) false:=hz₇
 refine wpAny_setField_rec hz₇ (by simp) λh₈ hz₈ hs₈=>?_
 replace hz₈:zc6 h₈ z TI TO (rawInt h₅.objs.size) false:=hz₈
 have up:∀c o,c≠z->h₅.get? c=some o->h₈.get? c=some o:=λc o c1 e=>hs₈.extBut _ _ c1 (hs₇.extBut _ _ c1 (Heap.get?_push_of_some _ e))
 have hT₈:IsPair h₈ h₅.objs.size x (.str ⟨#[c]⟩ s.toks):=hs₈.extBut _ _ (qhm hzlt) (hs₇.extBut _ _ (qhm hzlt) (Heap.get?_push_size _ rfl))
 have hz8:h₈.objs.size=h₅.objs.size+1:=by rw[hs₈.1,hs₇.1,Heap.size_push]
 rw[hsz]at hz₈ hT₈ hz8
 refine wpAny_pure ⟨_,rfl,?_⟩
 rw[hsz]
 exact wpAny_pure (hQ h₈ hz₈ (h1₅.at λo e=>up _ o D.i1z e) (by obtain⟨o,e,r⟩:=h2₅;exact⟨o,up _ o D.i2z e,r⟩) hT₈ hz8 λc o c1 c2 c3 c4 e=>up c o c1 (hk₅ c o c1 c2 c3 c4 e))
theorem zj2{z TI TO T:Addr}{f1:Bool}{oT:Obj}{Q:Bool->Shared->Prop}(hz:zc6 s.heap z TI TO (rawInt T) f1)(hT0:s.heap.get? T=some oT)(hQ:∀h₁,zc6 h₁ z TI TO (rawInt T) true->Heap.SameBut z s.heap h₁->Q false { s with heap:=h₁ }) :
  wpAny (model prog w) A (Builtin.SmallTypes.ownedTupleIsFree (.ref z)) Q E s:=by
 unfold Builtin.SmallTypes.ownedTupleIsFree
 refine wpAny_bind (wpAny_field hz rfl (x:=rawInt T) rfl ?_)
 show wpAny _ _ (loadIfAlive ((T:Int).toNat) >>= _) _ _ _
 rw[Int.toNat_natCast]
 refine wpAny_bind (PySem.W.kdx_alive hT0 ?_)
 simp only[Option.isNone_some,qfz,if_false]
 refine wpAny_bind (wpAny_field hz rfl (x:=.bool f1) rfl ?_)
 cases f1 with
 |true=>
  rw[if_neg (show ¬((Value.bool true != Value.bool true)=true) from qfu)]
  exact wpAny_pure (hQ s.heap hz (Heap.SameBut.refl _ _))
 |false=>
  rw[if_pos (show (Value.bool false != Value.bool true)=true from rfl)]
  refine wpAny_bind (wpAny_setField_rec hz (by simp) λh₁ hz₁ hs₁=>?_)
  replace hz₁:zc6 h₁ z TI TO (rawInt T) true:=hz₁
  exact wpAny_pure (hQ h₁ hz₁ hs₁)
theorem zv2{z TI TO i1 i2 l1 T:Addr}{f1:Bool}{oT:Obj}{k1 k2 c:Nat}{xs:Array Value}{x:Value}{y:Str}{t:Tok}{Q:Option Value->Shared->Prop}(D:znh z TI TO i1 i2 l1)(hz:zc6 s.heap z TI TO (rawInt T) f1)(hT0:s.heap.get? T=some oT)(hTI:IsPair s.heap TI (.ref i1) (.ref i2))(h1:s.heap.IsListIter i1 l1 k1)(h2:s.heap.IsStrIter i2 "str_ascii_iterator" y t k2)(hl1:s.heap.IsList l1 xs)(hx:xs[k1]?=some x)(hy:y.cps[k2]?=some c)(hQ:∀h',zc6 h' z TI TO (rawInt T) true->h'.IsListIter i1 l1 (k1+1)->h'.IsStrIter i2 "str_ascii_iterator" y t (k2+1)->IsPair h' s.heap.objs.size x (.str ⟨#[c]⟩ s.toks)->h'.objs.size=s.heap.objs.size+1 ->
   (∀c o,c≠z->c≠i1->c≠i2->s.heap.get? c=some o->h'.get? c=some o)->Q (some (.ref s.heap.objs.size)) { s with heap:=h',toks:=s.toks+1 }) :
  wpAny (model prog w) A (pyNext (.ref z)) Q E s:=by
 have hT:s.TypeIs (.ref z) "zip":=⟨_,hz,rfl⟩
 unfold pyNext
 refine wpAny_bind (wpAny_attempt (wpAny_callSpecial?_slot (name:=Str.ofString "__next__") hT F.slot_zip_next
  (wpAny_call_entry F.slot_zip_next hT F.entry_zip_next ?_ (F.args_zip_next_1 _))))
 show wpAny _ _ (field (.ref z) 2 >>= _) _ _ _
 refine wpAny_bind (wpAny_field hz rfl (x:=.bool false) rfl ?_)
 show wpAny _ _ (field (.ref z) 3 >>= _) _ _ _
 refine wpAny_bind (wpAny_field hz rfl (x:=.ref TI) rfl ?_)
 refine wpAny_bind (wpAny_seqItems hTI rfl ?_)
 show wpAny _ _ (Builtin.SmallTypes.ownedTupleIsFree (.ref z) >>= _) _ _ _
 refine wpAny_bind (zj2 hz hT0 λh₁ hz₁ hs₁=>?_)
 simp only[qfz,if_false]
 refine wpAny_bind ?_
 simp only[List.forIn_toArray,qit,qic]
 refine wpAny_bind (wpAny_bind (wpAny_holding ?_))
 show wpAny _ _ (Builtin.SmallTypes.nextOf (.ref i1) >>= _) _ _ _
 refine wpAny_bind (wpAny_nextOf_list_item (h1.extBut hs₁.extBut D.i1z) (hl1.extBut hs₁.extBut D.l1z) hx λh₂ h1₂ hs₂=>wpAny_pure (wpAny_pure ?_))
 refine wpAny_bind (wpAny_bind (wpAny_holding ?_))
 show wpAny _ _ (Builtin.SmallTypes.nextOf (.ref i2) >>= _) _ _ _
 refine wpAny_bind (wpAny_nextOf_ascii_item ((h2.extBut hs₁.extBut D.i2z).extBut hs₂.extBut D.i12.symm) hy λh₃ h2₃ hs₃=>wpAny_pure (wpAny_pure (wpAny_pure ?_)))
 refine wpAny_bind (wpAny_newTuple ?_ (by show 2<=sizeLine;decide))
 have hsz:h₃.objs.size=s.heap.objs.size:=by rw[hs₃.1,hs₂.1,hs₁.1]
 have hz₃:zc6 h₃ z TI TO (rawInt T) true:=hs₃.extBut _ _ D.i2z.symm (hs₂.extBut _ _ D.i1z.symm hz₁)
 have h1₃:h₃.IsListIter i1 l1 (k1+1):=h1₂.extBut hs₃.extBut D.i12
 have hk₃:∀c o,c≠z->c≠i1->c≠i2->s.heap.get? c=some o->h₃.get? c=some o:=λc o c1 c3 c4 e=>hs₃.extBut _ _ c4 (hs₂.extBut _ _ c3 (hs₁.extBut _ _ c1 e))
 have up:∀c o,h₃.get? c=some o->(h₃.push { cls:=.type "tuple",data:=.seq #[x,.str ⟨#[c]⟩ s.toks] }).get? c=some o:=λc o e=>Heap.get?_push_of_some _ e
 refine wpAny_pure ⟨_,rfl,?_⟩
 show wpAny _ _ (pure (some (Value.ref h₃.objs.size))) _ _ _
 rw[hsz]
 refine wpAny_pure (hQ _ (Heap.get?_push_of_some _ hz₃) (h1₃.at λo e=>Heap.get?_push_of_some _ e) (by obtain⟨o,e,r⟩:=h2₃;exact⟨o,Heap.get?_push_of_some _ e,r⟩) ?_ (by rw[Heap.size_push,hsz]) λc o c1 c3 c4 e=>Heap.get?_push_of_some _ (hk₃ c o c1 c3 c4 e))
 rw[<-hsz]
 exact Heap.get?_push_size _ rfl
theorem zzu{z TI TO i1 i2 l1 T:Addr}{f1:Bool}{oT:Obj}{k1:Nat}{xs:Array Value}{Q:Option Value->Shared->Prop}(hh:A.handled=none)(D:znh z TI TO i1 i2 l1)(hz:zc6 s.heap z TI TO (rawInt T) f1)(hT0:s.heap.get? T=some oT)(hTI:IsPair s.heap TI (.ref i1) (.ref i2))(h1:s.heap.IsListIter i1 l1 k1)(hl1:s.heap.IsList l1 xs)(hx:xs[k1]?=none)(hQ:∀h',(∀c o,c≠z->c≠i1->s.heap.get? c=some o->h'.get? c=some o)->Q none { s with heap:=h' }) :
  wpAny (model prog w) A (pyNext (.ref z)) Q E s:=by
 have hT:s.TypeIs (.ref z) "zip":=⟨_,hz,rfl⟩
 unfold pyNext
 refine wpAny_bind (wpAny_attempt (wpAny_callSpecial?_slot (name:=Str.ofString "__next__") hT F.slot_zip_next
  (wpAny_call_entry F.slot_zip_next hT F.entry_zip_next ?_ (F.args_zip_next_1 _))))
 show wpAny _ _ (field (.ref z) 2 >>= _) _ _ _
 refine wpAny_bind (wpAny_field hz rfl (x:=.bool false) rfl ?_)
 show wpAny _ _ (field (.ref z) 3 >>= _) _ _ _
 refine wpAny_bind (wpAny_field hz rfl (x:=.ref TI) rfl ?_)
 refine wpAny_bind (wpAny_seqItems hTI rfl ?_)
 show wpAny _ _ (Builtin.SmallTypes.ownedTupleIsFree (.ref z) >>= _) _ _ _
 refine wpAny_bind (zj2 hz hT0 λh₁ hz₁ hs₁=>?_)
 simp only[qfz,if_false]
 refine wpAny_bind ?_
 simp only[List.forIn_toArray,qit,qic]
 refine wpAny_bind (wpAny_bind (wpAny_holding ?_))
 show wpAny _ _ (Builtin.SmallTypes.nextOf (.ref i1) >>= _) _ _ _
 refine wpAny_bind (wpAny_nextOf_list_end (A:=A.in1) hh (h1.extBut hs₁.extBut D.i1z) (hl1.extBut hs₁.extBut D.l1z) hx λh₂ e hs₂ he=>?_)
 obtain⟨o,ho,hc⟩:=he
 refine wpAny_bind (wpAny_isInstance (T:="StopIteration") (b:=true) ⟨o,ho,hc⟩ isSubtype_stop ?_)
 exact wpAny_pure (hQ _ λc o c1 c2 e=>hs₂ _ _ c2 (hs₁.extBut _ _ c1 e))
theorem znj:typeLookup (.type "zip") "keys"=pure none:=am_miss_of_fast (by first|decide +kernel|rfl)
theorem zjk:typeLookup (.type "zip") "__getattr__"=pure none:=by rw[typeLookup_type,builtinLookup_eq_fast];kernel_rfl
theorem ze7:entryFor table "zip.__getattribute__"=some Builtin.«object.__getattribute__»:=
 entryFor_alias (id':="object.__getattribute__") (by kernel_rfl) (by decide +kernel) (by decide +kernel) (by kernel_rfl)
theorem zds(a:Addr)(fs:Array Value)(sl:Array (Option Value))(name:Str)(u:Tok)(hmiss:typeLookup (.type "zip") name=pure none)(hname:(["__module__","__name__","__qualname__","__doc__","__annotations__"]:List Str).contains name=false)(hsz:name.length+100<=sizeLine:=by size_fits) :
  Meets (Builtin.«object.__getattribute__» ⟨[.ref a,.str name u],[]⟩) (λA R s=>s.heap.get? a=some { cls:=.type "zip",dict:=none,data:=.fields fs,slots:=sl }/\raisesAttr (.ref a) name A R s):=
 Meets.of_wp λprog w A R s hs=>by
  obtain⟨hp,g,d,tk,os⟩:=s
  obtain⟨hx,hs⟩:=hs
  have hT:(⟨hp,g,d,tk,os⟩:Shared).TypeIs (.ref a) "zip":=⟨_,hx,rfl⟩
  unfold Builtin.«object.__getattribute__»
  repeat (any_goals (first|assumption|wp_step))
  simp only[hname,qfz,if_false]
  repeat (any_goals (first|assumption|wp_step))
  exact wpAny_raiseAttrError hs.1 hs.2 (attrMsg_fits (by decide +kernel) hsz)
theorem qbg{s:Shared}{a:Addr}{fs:Array Value}{sl:Array (Option Value)}{Q:Option Value->Shared->Prop}(hx:s.heap.get? a=some { cls:=.type "zip",dict:=none,data:=.fields fs,slots:=sl })(hA:A.handled=none)(h:∀h' tk,(∀b ob,s.heap.get? b=some ob->h'.get? b=some ob)->Q none { s with heap:=h',toks:=tk }):wpAny (model prog w) A (getAttr? (.ref a) "keys") Q E s:=by
 obtain⟨hp,g,d,tk,os⟩:=s
 have hT:∀tk',(⟨hp,g,d,tk',os⟩:Shared).TypeIs (.ref a) "zip":=λ_=>⟨_,hx,rfl⟩
 have hmiss:=znj
 have hname:(["__module__","__name__","__qualname__","__doc__","__annotations__"]:List Str).contains "keys"=false:=by decide +kernel
 have hsz:("keys":Str).length+100<=sizeLine:=by first|size_fits|decide +kernel
 have f1:=sub_AttributeError
 have f3:=qh0.lookup
 have f4:=qh0.bind (.ref a)
 have f5:=zjk
 unfold getAttr? getAttrBy? getAttrBy
 repeat (any_goals (first|assumption|exact hT _|((with_reducible show wpAny _ _ (call (Value.builtin "zip.__getattribute__") _ _) _ _ _);refine call_meets qh0 (hT _) ze7 (PySem.F.args_zip_getattribute_2 _ _) (zds a fs sl "keys" _ hmiss hname hsz) ⟨hx,hA,λh' tk' e hx'=>?_⟩)|wp_step))
 obtain⟨t',u',he⟩:=hx'.there
 show wpAny _ _ (getattributeRaised _ _ _ _ _ _ _) _ _ _
 unfold getattributeRaised
 repeat (any_goals (first|assumption|wp_step))
 all_goals first|exact h _ _ hx'.keeps|(dsimp only;repeat (any_goals (first|assumption|exact h _ _ hx'.keeps|wp_step)))
end
end PySem
namespace L2
open PySem PySem.Spec PyProof.Rows
def zkv(q:Key×Nat):Key×V:=(q.1,.str ⟨#[q.2]⟩)
section
variable{prog:Program}{w:World}{A:Around}{E:Value->Shared->Prop}
theorem zot{R:Result->Shared->Prop}{S z T:Addr}{u val res:Value}{k:Key}{acc:List (Key×Value)}{ix:Int}{t:Tok}{s:Shared}(hk:zn6 k u=true)(hln:acc.length<=sizeLine)(hn:∀E',wpAny (model prog w) A.in1 (pyNext (.ref z)) (λv s1=>v=some (.ref T)/\IsTup s1.heap T #[u,val]/\s1.heap.DictOf (zbh prog w) S acc ∧
   ∀h2,h2.DictOf (zbh prog w) S (stored acc k val)->Heap.SameBut S s1.heap h2->codeAny (model prog w) A (.builtin "dict.update.loop" ⟨[.ref S,.ref z,.int (ix+1) 0,res],[]⟩) R { s1 with heap:=h2,toks:=s1.toks+1 }) E' s) :
  codeAny (model prog w) A (.builtin "dict.update.loop" ⟨[.ref S,.ref z,.int ix t,res],[]⟩) R s:=by
 refine codeAny_builtin zsv ?_
 rw[Around.under_plainId zhg _]
 show wpAny _ A.in1 (pyNext (.ref z) >>= _) _ _ s
 refine wpAny_bind (thn (hn _) λv s1 ⟨ev,ht1,hm1,hrec⟩=>?_)
 subst ev
 obtain⟨o,ho,hc,n,hd⟩:=id ht1
 show wpAny _ A.in1 (holding [Value.ref T] _ >>= _) _ _ _
 refine wpAny_bind (wpAny_holding ?_)
 refine wpAny_bind (wpAny_tryCatch ?_)
 unfold Builtin.Dict.pairItems
 refine wpAny_bind (wpAny_typeOf (T:="tuple") ⟨o,ho,hc⟩ ?_)
 rw[if_pos (by first|decide|rfl|simp)]
 refine wpAny_bind (wpAny_seqItems ho hd (wpAny_pure ?_))
 show wpAny _ A.in1 (holding [u,val] (dictSet S u val)) _ _ _
 refine wpAny_holding (wpAny_dictSet_pairs (knd:=zbh prog w) (k:=k) hk hm1 (λh2 hm2 hs2=>?_) hln)
 exact wpAny_pure ⟨plainId_quiet zhg _,hrec h2 hm2 hs2⟩
theorem zou{R:Result->Shared->Prop}{S z TI TO i1 i2 l T:Addr}{oT:Obj}{items:Array Value}{y:Str}{ty:Tok}{res:Value}(hh:A.handled=none)(D:znh z TI TO i1 i2 l)(hS:S≠z/\S≠TI/\S≠i1/\S≠i2/\S≠l/\S≠T)(hT:T≠z/\T≠i1/\T≠i2) :
  ∀(rest:List (Key×Nat))(i:Nat)(acc:List (Key×Value))(ix:Int)(t:Tok)(s:Shared)(f1:Bool),items.size=i+rest.length->acc.length+rest.length<=sizeLine ->
   (∀(j:Nat)(q:Key×Nat),rest[j]?=some q->∃u:Value,items[i+j]?=some u/\zn6 q.1 u=true/\y.cps[i+j]?=some q.2) ->
   zc6 s.heap z TI TO (rawInt T) f1->s.heap.get? T=some oT->IsPair s.heap TI (.ref i1) (.ref i2)->s.heap.IsListIter i1 l i->s.heap.IsStrIter i2 "str_ascii_iterator" y ty i->s.heap.IsList l items->s.heap.DictOf (zbh prog w) S acc ->
   (∀h' tk prs,KV (rest.map zkv) prs->h'.DictOf (zbh prog w) S (merged acc prs)->(∀b o,b≠S->b≠z->b≠i1->b≠i2->s.heap.get? b=some o->h'.get? b=some o)->R (.ok (.ret res)) { s with heap:=h',toks:=tk }) ->
   codeAny (model prog w) A (.builtin "dict.update.loop" ⟨[.ref S,.ref z,.int ix t,res],[]⟩) R s
 |[],i,acc,ix,t,s,f1,hsz,hln,ht,hz,hoT,hTI,h1,h2,hl,hm,hR=>by
  refine codeAny_builtin zsv ?_
  rw[Around.under_plainId zhg _]
  show wpAny _ A.in1 (pyNext (.ref z) >>= _) _ _ s
  refine wpAny_bind (zzu (A:=A.in1) hh D hz hoT hTI h1 hl (by simp at hsz;simp;lia) λh' hk=>?_)
  show wpAny _ A.in1 (Builtin.Dict.addKeywords S [] >>= _) _ _ _
  refine wpAny_bind (wpAny_pure (wpAny_pure ?_))
  exact hR h' s.toks [] .nil (hm.at λo e=>hk _ o hS.1 hS.2.2.1 e) λb o _ hb hb1 _ e=>hk b o hb hb1 e
 |q::rest,i,acc,ix,t,s,f1,hsz,hln,ht,hz,hoT,hTI,h1,h2,hl,hm,hR=>by
  obtain⟨u,hu,hk,hc⟩:=ht 0 q rfl
  rw[qfd]at hsz hln
  refine zot (T:=s.heap.objs.size) (u:=u) (val:=.str ⟨#[q.2]⟩ s.toks) (k:=q.1) (acc:=acc) hk (by lia) λE'=>?_
  have lt:∀{c o},s.heap.get? c=some o->c<s.heap.objs.size:=λe=>Heap.lt_size e
  refine zv2 (A:=A.in1) D hz hoT hTI h1 h2 hl (by simpa using hu) (by simpa using hc) λh' z' a1 a2 hp hz' kk=>?_
  refine⟨rfl,⟨_,hp,rfl,_,rfl⟩,hm.at λo e=>kk _ o hS.1 hS.2.2.1 hS.2.2.2.1 e,λh2' hd2 hs2=>?_⟩
  have zz:∀{c:Addr}{o:Obj},c≠S->h'.get? c=some o->h2'.get? c=some o:=λhc e=>hs2.extBut _ _ hc e
  refine zou (items:=items) hh D hS hT rest (i+1) (stored acc q.1 (.str ⟨#[q.2]⟩ s.toks)) (ix+1) 0 _ true (by lia) ?_ (λj q' e=>?_) (zz hS.1.symm z') (zz hS.2.2.2.2.2.symm (kk _ _ hT.1 hT.2.1 hT.2.2 hoT)) (zz hS.2.1.symm (kk _ _ D.TIz D.TIi1 D.TIi2 hTI))
   (a1.at λo e=>zz hS.2.2.1.symm e) (by obtain⟨o,e,r⟩:=a2;exact⟨o,zz hS.2.2.2.1.symm e,r⟩) (hl.at λo e=>zz hS.2.2.2.2.1.symm (kk _ _ D.l1z D.l1i1 D.l1i2 e)) hd2 λh3 tk prs rel hd3 k3=>?_
  ·have z:=stored_length_le acc q.1 (.str ⟨#[q.2]⟩ s.toks)
   lia
  ·obtain⟨u',e1,e2,e3⟩:=ht (j+1) q' (by simpa using e)
   exact⟨u',by rw[show i+1+j=i+(j+1) by lia];exact e1,e2,by rw[show i+1+j=i+(j+1) by lia];exact e3⟩
  ·exact hR h3 tk ((q.1,.str ⟨#[q.2]⟩ s.toks)::prs) (.cons ⟨rfl,⟨_,rfl⟩⟩ rel) hd3 λb o b1 b2 b3 b4 e=>k3 b o b1 b2 b3 b4 (zz b1 (kk b o b2 b3 b4 e))
theorem zod{s:Shared}{z TI TO i1 i2 l:Addr}{items:Array Value}{y:Str}{ty:Tok}{a b:Value}{prs:List (Key×Nat)}{Q:Value->Shared->Prop}(hh:A.handled=none)(D:znh z TI TO i1 i2 l)(hz:zc6 s.heap z TI TO .none false)(hTI:IsPair s.heap TI (.ref i1) (.ref i2))(hTO:IsPair s.heap TO a b)(h1:s.heap.IsListIter i1 l 0)(h2:s.heap.IsStrIter i2 "str_ascii_iterator" y ty 0)(hl:s.heap.IsList l items)(hsz:items.size=prs.length)(hpos:prs≠[])(hln:prs.length<=sizeLine)(ht:∀(j:Nat) (q:Key×Nat),prs[j]?=some q->∃u:Value,items[j]?=some u/\zn6 q.1 u=true/\y.cps[j]?=some q.2)(h:∀h' tk vs,KV (prs.map zkv) vs->h'.DictOf (zbh prog w) s.heap.objs.size (merged [] vs)->(∀b o,b≠z->b≠TO->b≠i1->b≠i2->s.heap.get? b=some o->h'.get? b=some o)->Q (.ref s.heap.objs.size) { s with heap:=h',toks:=tk }) :
  wpAny (model prog w) A (call (.type "dict") [.ref z]) Q E s:=by
 refine callType_codes (Q₁:=λobj s₁=>obj=.ref s.heap.objs.size/\s₁={ s with heap:=s.heap.push { cls:=.type "dict",data:=.dict #[] } }) PySem.F.kt_called_dict (PySem.F.kt_typeCall_dict_1 _) PySem.F.entry_dict_init (kt_code_dict_new _ ⟨rfl,rfl⟩) ?_
 rintro obj s₁ ⟨rfl,rfl⟩
 have hnew:(s.heap.push { cls:=.type "dict",data:=.dict #[] }).DictOf (zbh prog w) s.heap.objs.size []:=Heap.DictOf.new s.heap
 have k0:∀b o,s.heap.get? b=some o->(s.heap.push { cls:=.type "dict",data:=.dict #[] }).get? b=some o:=λb o e=>Heap.get?_push_of_some _ e
 refine⟨hnew.typeIs,PySem.F.args_dict_init_2 _ _,?_⟩
 unfold Builtin.«dict.__init__»
 refine wpAny_bind ?_
 unfold Builtin.Dict.selfAndRest
 refine wpAny_bind (wpAny_notOrdered_dict hnew.typeIs ?_)
 show wpAny _ _ (pure (s.heap.objs.size,[Value.ref z])) _ _ _
 refine wpAny_pure ?_
 show wpAny _ _ (Builtin.Dict.updateFrom "dict.__init__" s.heap.objs.size (.ref z) [] .none) _ _ _
 unfold Builtin.Dict.updateFrom
 refine wpAny_bind (wpAny_typeOf (T:="zip") ⟨_,k0 _ _ hz,rfl⟩ ?_)
 rw[if_pos (by first|decide|rfl|simp)]
 refine wpAny_bind (qbg (k0 _ _ hz) hh λhA tk1 hk1=>?_)
 rw[if_pos (show (none:Option Value).isNone=true from rfl)]
 refine wpAny_bind (wpAny_rule ?_)
 have up:∀{b o},s.heap.get? b=some o->hA.get? b=some o:=λe=>hk1 _ _ (k0 _ _ e)
 refine wpAny_bind (wpAny_pyIter_zip (f0:=.none) (up hz) ?_)
 have lt:∀{c o},s.heap.get? c=some o->c≠s.heap.objs.size:=λe=>qf6 (Heap.lt_size e)
 obtain⟨oI1,eI1,rI1⟩:=id h1
 obtain⟨oI2,eI2,rI2⟩:=id h2
 obtain⟨oL,eL,rL⟩:=id hl
 have hS1:s.heap.objs.size<hA.objs.size:=by
  have e:(s.heap.push { cls:=.type "dict",data:=.dict #[] }).get? s.heap.objs.size=some { cls:=.type "dict",data:=.dict #[] }:=Heap.get?_push_size _ rfl
  exact Heap.lt_size (hk1 _ _ e)
 have key:codeAny (model prog w) A.in1 (.builtin "dict.update.loop" ⟨[.ref s.heap.objs.size,.ref z,rawInt 0,Value.none],[]⟩) (wants (λr s₂=>r=.none/\Q (.ref s.heap.objs.size) s₂) E) { s with heap:=hA,toks:=tk1 }:=by
  cases prs with
  |nil=>exact absurd rfl hpos
  |cons q rest=>
   obtain⟨u,hu,hk,hc⟩:=ht 0 q rfl
   rw[qfd]at hsz hln
   refine zot (A:=A.in1) (T:=hA.objs.size) (u:=u) (val:=.str ⟨#[q.2]⟩ tk1) (k:=q.1) (acc:=[]) hk (by show 0<=sizeLine;decide) λE'=>?_
   refine zuc (s:={ s with heap:=hA,toks:=tk1 }) D (up hz) (up hTI) (up hTO) (h1.at λo e=>up e) ⟨oI2,up eI2,rI2⟩ (hl.at λo e=>up e) hu hc λh' z' a1 a2 hp hz' kk=>?_
   refine⟨rfl,⟨_,hp,rfl,_,rfl⟩,(hnew.at λo e=>hk1 _ _ e).at λo e=>kk _ o (lt hz).symm (lt hTO).symm (lt eI1).symm (lt eI2).symm e,λh2' hd2 hs2=>?_⟩
   have ne:∀{c o},s.heap.get? c=some o->c≠hA.objs.size:=λe=>qf6 (qkr (Heap.lt_size e) hS1)
   have zz:∀{c:Addr}{o:Obj},c≠s.heap.objs.size->h'.get? c=some o->h2'.get? c=some o:=λhc e=>hs2.extBut _ _ hc e
   refine zou (A:=A.in1) (S:=s.heap.objs.size) (T:=hA.objs.size) (items:=items) hh D ⟨(lt hz).symm,(lt hTI).symm,(lt eI1).symm,(lt eI2).symm,(lt eL).symm,qf6 hS1⟩ ⟨(ne hz).symm,(ne eI1).symm,(ne eI2).symm⟩ rest 1 (stored [] q.1 (.str ⟨#[q.2]⟩ tk1)) 1 0 _ false
    (by lia) ?_ (λj q' e=>?_) (zz (lt hz) z') (zz (qhm hS1) hp) (zz (lt hTI) (kk _ _ D.TIz D.TITO D.TIi1 D.TIi2 (up hTI))) (a1.at λo e=>zz (lt eI1) e) (by obtain⟨o,e,r⟩:=a2;exact⟨o,zz (lt eI2) e,r⟩)
    (hl.at λo e=>zz (lt eL) (kk _ _ D.l1z D.l1TO D.l1i1 D.l1i2 (up e))) hd2 λh3 tk vs rel hd3 k3=>?_
   ·have z:=stored_length_le ([]:List (Key×Value)) q.1 (.str ⟨#[q.2]⟩ tk1)
    have:([]:List (Key×Value)).length=0:=rfl
    lia
   ·obtain⟨u',e1,e2,e3⟩:=ht (j+1) q' (by simpa using e)
    exact⟨u',by rw[qka];exact e1,e2,by rw[qka];exact e3⟩
   ·exact⟨rfl,h h3 tk ((q.1,.str ⟨#[q.2]⟩ tk1)::vs) (.cons ⟨rfl,⟨_,rfl⟩⟩ rel) hd3 λb o b1 b2 b3 b4 e=>k3 b o (lt e) b1 b3 b4 (zz (lt e) (kk b o b1 b2 b3 b4 (up e)))⟩
 first
  |exact wpAny_pure ⟨plainId_quiet zhg _,key⟩
  |exact wpAny_bind (wpAny_pure (wpAny_pure ⟨plainId_quiet zhg _,key⟩))
end
theorem zvs:bootBuiltins "dict"=some (.type "dict"):=by decide +kernel
def zzz(K:qfa)(ta:TA):TE:=λσ H Q=>ta σ H λvs H1=>∃(a:Addr)(y:Str)(ks:List Key),vs=[.ref a,.str y]/\SqL K H1 a (ks.map kV)/\y.cps.all (·<128)=true/\ks.length=y.cps.size/\ks≠[] ∧
 ∀p,H1 p=none->Q (.ref p) (upd H1 p (.dK (zd6 [] ((ks.zip y.cps.toList).map zkv))))
theorem zuv{X:Cx}{e e2:Expr}{ta:TA}{p p2 pos pos2:Pos}(hc:X.calm=true)(hg:Gl X "zip")(hm:X.mg "zip"=none)(hg2:Gl X "dict")(hm2:X.mg "dict"=none)(ha:PA X [e,e2] ta)(hs:starEach [e,e2] X.env=(false,eval e X.env)::starEach [e2] X.env:=by rfl)(hpl:(backTo pos2 (starEach [e2] X.env)).any (·.1)=false:=by rfl)(hs2:starEach [.Call (.Name "zip" p2) [e,e2] [] pos2] X.env=[(false,eval (.Call (.Name "zip" p2) [e,e2] [] pos2) X.env)]:=by rfl) :
  PE X (.Call (.Name "dict" p) [.Call (.Name "zip" p2) [e,e2] [] pos2] [] pos) (zzz X.K ta):=by
 intro pins s σ H Q I h
 refine wpAny_Call_Name_kw (zhz I hg2 hm2 zvs ?_)
 refine PyProof.Rows.callWith_type1 ?_ hs2 rfl
 rw[hs2]
 refine Calls.spliced_cons ?_
 refine Call_ (zhz I hg hm zqf (PyProof.Rows.callWith_type1 (thn (ha pos2 pins s σ H _ I h) λus s1 ⟨vs,H1,I1,r1,q1⟩=>?_) hs hpl))
 obtain⟨a,y,ks,ex,hq,hasc,hlen,hne,q⟩:=q1
 subst ex
 cases r1 with
 |cons r rr=>
  cases rr with
  |cons r' rr=>
   cases rr
   cases r
   obtain⟨t,rfl⟩:=r'
   obtain⟨its,rv,p1,hzz⟩:=I1.list hq
   rw[qe9]at hzz
   have la:a<s1.heap.objs.size:=p1.lt
   refine zvo p1.isList hasc λh' hz hTI hTO h1 h2 hsz hk=>?_
   refine Calls.spliced_nil ?_
   have D:znh (s1.heap.objs.size+4) (s1.heap.objs.size+2) (s1.heap.objs.size+3) s1.heap.objs.size (s1.heap.objs.size+1) a:=by
    have Z:=PySem.W.ktu_apart s1.heap.objs.size a a la la
    exact⟨Z.TIz,Z.TOz,Z.i1z,Z.i2z,Z.TITO,Z.TIi1,Z.TIi2,Z.TOi1,Z.TOi2,Z.i12,Z.l1z,Z.l1TO,Z.l1i1,Z.l1i2⟩
   have hl:its.length=ks.length:=by have:=rv.length;rw[qe9]at this;lia
   have hpl:(ks.zip y.cps.toList).length=ks.length:=by rw[List.length_zip,hlen];simp
   refine zod (s:={ s1 with heap:=h' }) (prs:=ks.zip y.cps.toList) (I.ok.hd hc) D hz hTI hTO h1 h2 (p1.isList.at λo e=>hk _ _ e) (by rw[hpl,qfr,hl]) (λz=>?_) (by rw[hpl];exact hzz) (λj q' e=>?_) λh'' tk vs rel hd' k=>?_
   ·rw[z]at hpl;cases ks with
    |nil=>exact hne rfl
    |cons _ _=>simp at hpl
   ·rw[qid]at e
    obtain⟨u,hu,ru⟩:=rv.get (i:=j) (x:=kV q'.1) (by rw[qfe,e.1];rfl)
    exact⟨u,by simpa using hu,zvb (P:=X.prog) (w:=X.w) ru,by rw[<-qi1];exact e.2⟩
   ·have big:s1.heap.objs.size<=h'.objs.size:=by rw[hsz];lia
    have hm:(h'.objs.size == sysModules)=false:=beq_eq_false_iff_ne.mpr (qhm (qfn I1.big big))
    have hlen:(zd6 [] ((ks.zip y.cps.toList).map zkv)).length<=sizeLine:=by
     refine qgn (zhy _ []) ?_
     rw[qf5,Nat.zero_add,qe9,hpl];exact hzz
    refine⟨.ref h'.objs.size,upd H1 h'.objs.size (.dK (zd6 [] ((ks.zip y.cps.toList).map zkv))),I1.laid (t':=tk) (λb o e=>?_) big (show ObjOk X.prog X.w _ _ _ (.dK (zd6 [] ((ks.zip y.cps.toList).map zkv))) from ⟨hlen,hm,merged [] vs,KV.merge rel .nil,hd'⟩),rfl,q _ (I1.hok.fresh big)⟩
    have hb:=Heap.lt_size e
    exact k b o (qf6 (qfn hb (qhh _ _))) (qf6 (qfn hb (qhh _ _))) (qf6 hb) (qf6 (qfn hb (qhh _ _))) (hk b o e)
open PySem PySem.Spec PyProof.Rows L3
def PEt(X:Cx)(e:Expr)(t:TE):Prop:=∀(pins:List (Addr×Obj))(s:Shared)(σ:St)(H:Hp)(Q:VK),Inv X pins σ H s->t σ H Q->wpAny (model X.prog X.w) X.A (eval e X.env) (λu s'=>1<=s'.toks/\EP X pins σ Q u s') X.xe s
section
variable{X:Cx}{k:Nat}{C:Addr}{ps:List Str}{sp:Sp}{E:XK}{x m:Str}{p pos apos:Pos}{e o:Expr}{es:List Expr}{ta:TE}{t:TA}
theorem cMt{pl:Sem Bool}{z:Str}{j:Nat}{p':Pos}(O:OkM X.prog X.w X.K X.mg X.base k C m ps sp)(hr:Room k X.A)(th:zcb X E)(he:PE X o ta)(hst:starEach [.Constant (.str z) j p'] X.env=(false,eval (.Constant (.str z) j p') X.env)::starEach [] X.env:=by rfl)(hpl:(backTo pos (starEach [] X.env)).any (·.1)=false:=by rfl)(ht:eval (.Call (.Attribute o m apos) [.Constant (.str z) j p'] [] pos) X.env=(do
   let ov <-eval o X.env
   standAt apos.atName
   let (f,first) <-holding [ov] (getMethod ov m pl)
   callWith pos f first (backTo pos (starEach [.Constant (.str z) j p'] X.env)) (backToKw pos (keywordEach [] X.env))):=by rfl) :
  PEt X (.Call (.Attribute o m apos) [.Constant (.str z) j p'] [] pos) (zwg C m sp E ta (zz0 (tC (.str z)) qcz)):=by
 obtain⟨c,f,fd,hm,hb,F⟩:=O
 intro pins s σ H Q I h
 refine qh3 (pl:=pl) (thn (he pins s σ H _ I h) λu s1 ⟨x,H1,I1,rx,a,dx,fs,ex,ea,l,q⟩=>?_) ht
 subst ex
 obtain rfl:u=Value.ref a:=rx
 refine zir I1 ea c hm l ?_
 refine qhr (first:=[.ref a]) (h₀:=X.base) I.ok.mod.kin hm.kp ?_ hst hpl
 rw[hst]
 refine Calls.spliced_cons (Calls.Constant_str (k:=j) (pos:=p') (Calls.spliced_nil ⟨(I1.tok _).kIn,?_⟩))
 have r:wpAny (model X.prog X.w) X.A _ (EP X pins σ Q) X.xe _:=zmv (us:=[.ref a,.str z s1.toks]) (vs:=[.ref a,.str z]) F hr hb .nil (zc8 th) (I1.tok (s1.toks+1)) (.cons rfl (.cons ⟨_,rfl⟩ .nil)) (by rw[qgb];exact q)
 exact wpAny_mono (wpAny_toks_of (n:=1) (Nat.le_add_left 1 _) r) (λ_ _ x=>x) λ_ _ x=>x.2
def tRepl(a b:Str)(to:TE):TE:=λσ H Q=>to σ H λx H1=>∃z,x=.str z/\(a == b)=false/\z.length+(z.length+1)*b.length<=16777216/\Q (.str (PySem.Txt.replace z a b)) H1
theorem qdw{a b:Str}{j1 j2:Nat}{p1 p2 cpos:Pos}{to:TE}(ho:PEt X o to)(hbase:attributeBase o "replace" X.env (eval o X.env)=eval o X.env:=by rfl)(hfew:((backTo cpos (starEach [.Constant (.str a) j1 p1,.Constant (.str b) j2 p2] X.env)).all (λx=>!x.1) && (backToKw cpos (keywordEach [] X.env)).all (λx=>x.1.isSome)
   && decide (([.Constant (.str a) j1 p1,.Constant (.str b) j2 p2]:List Expr).length+([]:List Keyword).length+(if ([]:List Keyword).isEmpty then 0 else 1)<30))=true:=by rfl)(hline:(apos.endLine == cpos.line)=true:=by rfl)(hs:starEach [.Constant (.str a) j1 p1,.Constant (.str b) j2 p2] X.env=[(false,eval (.Constant (.str a) j1 p1) X.env),(false,eval (.Constant (.str b) j2 p2) X.env)]:=by rfl) :
  PE X (.Call (.Attribute o "replace" apos) [.Constant (.str a) j1 p1,.Constant (.str b) j2 p2] [] cpos) (tRepl a b to):=by
 intro pins s σ H Q I h
 refine wpAny_Call_method_late hbase hfew hline rfl (thn (ho pins s σ H _ I h) λv s1 ⟨htk,x,H1,I1,r1,z,ex,hab,hsz,q1⟩=>?_)
 subst ex
 obtain⟨t,rfl⟩:=r1
 refine⟨"str","str.replace",F.plainAttrs_str,F.slot_str_replace,F.type_str_replace,typeIs_str _ _ _,(λ_ e=>nomatch e),?_⟩
 rw[hs]
 refine Calls.callWith_builtin rfl (Calls.evalArgs_plain (Calls.spliced_cons (Calls.Constant_str (k:=j1) (pos:=p1) (Calls.spliced_cons (Calls.Constant_str (k:=j2) (pos:=p2) (Calls.spliced_nil ?_))))))
 have h1:s1.toks≠0:=by lia
 have h2:s1.toks+1≠0:=by lia
 have h3:s1.toks≠s1.toks+1:=by lia
 exact PySem.SC.replace h1 h2 h3 hab hsz λt' k=>⟨.str _,H1,I1.tok k,⟨t',rfl⟩,q1⟩
theorem zx3:MtR X "str.strip" (λx xs H Q=>∃a b,x=.str a/\xs=[.str b]/\a.length<=sizeLine/\Q (.str (PySem.Txt.stripChars a b)) H):=by
 intro pins s σ H x xs v us Q I rx rs h
 obtain⟨a,b,rfl,rfl,hz,h⟩:=h
 obtain⟨t,rfl⟩:=rx
 cases rs with
 |cons r1 rs=>
  cases rs
  obtain⟨u,rfl⟩:=r1
  exact PySem.SC.stripChars (λt' k=>⟨.str _,H,I.tok k,⟨t',rfl⟩,h⟩) hz
end
end L2
namespace U
open PySem L2
noncomputable def top(i:Nat):Stmt:=PySem.Challenge.pw_sheetunits_s02_un_kind_of.main.body.getD i (.Pass ⟨0,0,0,0⟩)
noncomputable abbrev zgj:Stmt:=zax (top 1) 0
noncomputable abbrev zmj:List Str:=["self","number","at"]
theorem zme:zak zmj ["self","number","at"] (zag zgj):=⟨rfl,rfl,rfl,by decide +kernel,rfl,by decide +kernel,by decide +kernel⟩
noncomputable abbrev zgi:Stmt:=zax (top 2) 0
noncomputable abbrev zmi:List Str:=["self","at"]
theorem zmd:zak zmi ["self","at"] (zag zgi):=⟨rfl,rfl,rfl,by decide +kernel,rfl,by decide +kernel,by decide +kernel⟩
noncomputable abbrev zgl:Stmt:=zax (top 3) 0
noncomputable abbrev zml:List Str:=["self"]
theorem zmg:zak zml ["self"] (zag zgl):=⟨rfl,rfl,rfl,by decide +kernel,rfl,by decide +kernel,by decide +kernel⟩
noncomputable abbrev zfj:Stmt:=zax (top 4) 0
noncomputable abbrev zlz:List Str:=["self","at"]
theorem zlm:zak zlz ["self","at"] (zag zfj):=⟨rfl,rfl,rfl,by decide +kernel,rfl,by decide +kernel,by decide +kernel⟩
noncomputable abbrev zfk:Stmt:=zax (top 5) 0
noncomputable abbrev zl0:List Str:=["self","at"]
theorem zln:zak zl0 ["self","at"] (zag zfk):=⟨rfl,rfl,rfl,by decide +kernel,rfl,by decide +kernel,by decide +kernel⟩
noncomputable abbrev zfi:Stmt:=zax (top 6) 0
noncomputable abbrev zly:List Str:=["self","at"]
theorem zll:zak zly ["self","at"] (zag zfi):=⟨rfl,rfl,rfl,by decide +kernel,rfl,by decide +kernel,by decide +kernel⟩
noncomputable abbrev zho:Stmt:=zax (top 7) 0
noncomputable abbrev zok:List Str:=["self"]
theorem zof:zak zok ["self"] (zag zho):=⟨rfl,rfl,rfl,by decide +kernel,rfl,by decide +kernel,by decide +kernel⟩
noncomputable abbrev zko:Stmt:=zax (top 11) 0
noncomputable abbrev zsq:List Str:=["self","word","name","parameters","steps"]
theorem zsd:zak zsq ["self","word","name","parameters","steps"] (zag zko):=⟨rfl,rfl,rfl,by decide +kernel,rfl,by decide +kernel,by decide +kernel⟩
noncomputable abbrev zhn:Stmt:=zax (top 12) 0
noncomputable abbrev zoj:List Str:=["self","tokens"]
theorem zoe:zak zoj ["self","tokens"] (zag zhn):=⟨rfl,rfl,rfl,by decide +kernel,rfl,by decide +kernel,by decide +kernel⟩
noncomputable abbrev zgk:Stmt:=zax (top 12) 1
noncomputable abbrev zmk:List Str:=["self"]
theorem zmf:zak zmk ["self"] (zag zgk):=⟨rfl,rfl,rfl,by decide +kernel,rfl,by decide +kernel,by decide +kernel⟩
noncomputable abbrev zhm:Stmt:=zax (top 12) 2
noncomputable abbrev zoi:List Str:=["self","sort","token"]
theorem c_Reader_take:zak zoi ["self","sort"] (zag zhm):=⟨rfl,rfl,rfl,by decide +kernel,rfl,by decide +kernel,by decide +kernel⟩
noncomputable abbrev ze3:Stmt:=zax (top 12) 3
noncomputable abbrev zjq:List Str:=["self","sort"]
theorem zjo:zak zjq ["self","sort"] (zag ze3):=⟨rfl,rfl,rfl,by decide +kernel,rfl,by decide +kernel,by decide +kernel⟩
noncomputable abbrev zja:Stmt:=zax (top 12) 4
noncomputable abbrev zqv:List Str:=["self","action","name","number"]
theorem zqe:zak zqv ["self","action","name","number"] (zag zja):=⟨rfl,rfl,rfl,by decide +kernel,rfl,by decide +kernel,by decide +kernel⟩
noncomputable abbrev zdm:Stmt:=zax (top 12) 5
noncomputable abbrev zg9:List Str:=["self","read"]
theorem c_Reader_read_sheet:zak zg9 ["self"] (zag zdm):=⟨rfl,rfl,rfl,by decide +kernel,rfl,by decide +kernel,by decide +kernel⟩
noncomputable abbrev zd2:Stmt:=zax (top 12) 6
noncomputable abbrev zh9:List Str:=["self","name","parameters"]
theorem c_Reader_read_item:zak zh9 ["self"] (zag zd2):=⟨rfl,rfl,rfl,by decide +kernel,rfl,by decide +kernel,by decide +kernel⟩
noncomputable abbrev zcc:Stmt:=zax (top 12) 7
noncomputable abbrev zeq:List Str:=["self","names"]
theorem c_Reader_read_parameters:zak zeq ["self"] (zag zcc):=⟨rfl,rfl,rfl,by decide +kernel,rfl,by decide +kernel,by decide +kernel⟩
noncomputable abbrev zc2:Stmt:=zax (top 12) 8
noncomputable abbrev zfx:List Str:=["self"]
theorem zfv:zak zfx ["self"] (zag zc2):=⟨rfl,rfl,rfl,by decide +kernel,rfl,by decide +kernel,by decide +kernel⟩
noncomputable abbrev zcd:Stmt:=zax (top 12) 9
noncomputable abbrev zer:List Str:=["self","depth"]
theorem zch:zak zer ["self","depth"] (zag zcd):=⟨rfl,rfl,rfl,by decide +kernel,rfl,by decide +kernel,by decide +kernel⟩
noncomputable abbrev zeh:Stmt:=zax (top 12) 10
noncomputable abbrev zi3:List Str:=["self","depth"]
theorem zix:zak zi3 ["self","depth"] (zag zeh):=⟨rfl,rfl,rfl,by decide +kernel,rfl,by decide +kernel,by decide +kernel⟩
noncomputable abbrev zd0:Stmt:=zax (top 12) 11
noncomputable abbrev zh7:List Str:=["self","depth","sign"]
theorem c_Reader_read_term:zak zh7 ["self","depth"] (zag zd0):=⟨rfl,rfl,rfl,by decide +kernel,rfl,by decide +kernel,by decide +kernel⟩
noncomputable abbrev zdn:Stmt:=zax (top 12) 12
noncomputable abbrev zha:List Str:=["self","depth","sign","digits"]
theorem c_Reader_read_power:zak zha ["self","depth"] (zag zdn):=⟨rfl,rfl,rfl,by decide +kernel,rfl,by decide +kernel,by decide +kernel⟩
noncomputable abbrev zde:Stmt:=zax (top 12) 13
noncomputable abbrev zgg:List Str:=["self","depth"]
theorem zdg:zak zgg ["self","depth"] (zag zde):=⟨rfl,rfl,rfl,by decide +kernel,rfl,by decide +kernel,by decide +kernel⟩
noncomputable abbrev zdd:Stmt:=zax (top 12) 14
noncomputable abbrev zgf:List Str:=["self","digits"]
theorem c_Reader_read_number:zak zgf ["self"] (zag zdd):=⟨rfl,rfl,rfl,by decide +kernel,rfl,by decide +kernel,by decide +kernel⟩
noncomputable abbrev zd1:Stmt:=zax (top 12) 15
noncomputable abbrev zh8:List Str:=["self","depth","name"]
theorem c_Reader_read_name:zak zh8 ["self","depth"] (zag zd1):=⟨rfl,rfl,rfl,by decide +kernel,rfl,by decide +kernel,by decide +kernel⟩
noncomputable abbrev zcn:Stmt:=zax (top 12) 16
noncomputable abbrev ze0:List Str:=["self","depth","count"]
theorem c_Reader_read_arguments:zak ze0 ["self","depth"] (zag zcn):=⟨rfl,rfl,rfl,by decide +kernel,rfl,by decide +kernel,by decide +kernel⟩
noncomputable abbrev zmu:Stmt:=top 13
noncomputable abbrev zv1:List Str:=["tokens"]
theorem zvr:zak zv1 ["tokens"] (zag zmu):=⟨rfl,rfl,rfl,by decide +kernel,rfl,by decide +kernel,by decide +kernel⟩
noncomputable abbrev zo5:Stmt:=top 18
noncomputable abbrev zzm:List Str:=[]
theorem zzd:zak zzm [] (zag zo5):=⟨rfl,rfl,rfl,by decide +kernel,rfl,by decide +kernel,by decide +kernel⟩
noncomputable abbrev zi8:Stmt:=top 19
noncomputable abbrev zqt:List Str:=["mark","product"]
theorem c_mark_alone:zak zqt ["mark"] (zag zi8):=⟨rfl,rfl,rfl,by decide +kernel,rfl,by decide +kernel,by decide +kernel⟩
noncomputable abbrev zhk:Stmt:=top 20
noncomputable abbrev zog:List Str:=["place","product"]
theorem c_place_alone:zak zog ["place"] (zag zhk):=⟨rfl,rfl,rfl,by decide +kernel,rfl,by decide +kernel,by decide +kernel⟩
noncomputable abbrev zwt:Stmt:=top 21
noncomputable abbrev qe3:List Str:=["first","second","one","other"]
theorem c_times:zak qe3 ["first","second"] (zag zwt):=⟨rfl,rfl,rfl,by decide +kernel,rfl,by decide +kernel,by decide +kernel⟩
noncomputable abbrev zo8:Stmt:=top 22
noncomputable abbrev zzp:List Str:=["first","second","one","other"]
theorem c_divided:zak zzp ["first","second"] (zag zo8):=⟨rfl,rfl,rfl,by decide +kernel,rfl,by decide +kernel,by decide +kernel⟩
noncomputable abbrev zs2:Stmt:=top 23
noncomputable abbrev qby:List Str:=["product","power","exponent"]
theorem c_raised:zak qby ["product","power"] (zag zs2):=⟨rfl,rfl,rfl,by decide +kernel,rfl,by decide +kernel,by decide +kernel⟩
noncomputable abbrev zs0:Stmt:=top 24
noncomputable abbrev qbw:List Str:=["product","bound"]
theorem qbu:zak qbw ["product","bound"] (zag zs0):=⟨rfl,rfl,rfl,by decide +kernel,rfl,by decide +kernel,by decide +kernel⟩
noncomputable abbrev zms:Stmt:=top 25
noncomputable abbrev zvz:List Str:=["product"]
theorem zvq:zak zvz ["product"] (zag zms):=⟨rfl,rfl,rfl,by decide +kernel,rfl,by decide +kernel,by decide +kernel⟩
noncomputable abbrev zkh:Stmt:=top 26
noncomputable abbrev zsj:List Str:=["product"]
theorem zsa:zak zsj ["product"] (zag zkh):=⟨rfl,rfl,rfl,by decide +kernel,rfl,by decide +kernel,by decide +kernel⟩
noncomputable abbrev zda:Stmt:=top 27
noncomputable abbrev zgc:List Str:=["product"]
theorem zgb:zak zgc ["product"] (zag zda):=⟨rfl,rfl,rfl,by decide +kernel,rfl,by decide +kernel,by decide +kernel⟩
noncomputable abbrev zwu:Stmt:=top 28
noncomputable abbrev qe4:List Str:=["product","first"]
theorem qez:zak qe4 ["product","first"] (zag zwu):=⟨rfl,rfl,rfl,by decide +kernel,rfl,by decide +kernel,by decide +kernel⟩
noncomputable abbrev zkk:Stmt:=top 29
noncomputable abbrev zsm:List Str:=["product","filling","result","given","exponent"]
theorem c_filled_in:zak zsm ["product","filling"] (zag zkk):=⟨rfl,rfl,rfl,by decide +kernel,rfl,by decide +kernel,by decide +kernel⟩
noncomputable abbrev zo9:Stmt:=top 32
noncomputable abbrev zzq:List Str:=["product","at"]
theorem zze:zak zzq ["product","at"] (zag zo9):=⟨rfl,rfl,rfl,by decide +kernel,rfl,by decide +kernel,by decide +kernel⟩
noncomputable abbrev zdk:Stmt:=top 33
noncomputable abbrev zlu:List Str:=["rest","indexes","index"]
theorem c_nearest_place:zak zlu ["rest"] (zag zdk):=⟨rfl,rfl,rfl,by decide +kernel,rfl,by decide +kernel,by decide +kernel⟩
noncomputable abbrev zkg:Stmt:=top 34
noncomputable abbrev zsi:List Str:=["rest","index","result","exponent"]
theorem c_quotients:zak zsi ["rest","index"] (zag zkg):=⟨rfl,rfl,rfl,by decide +kernel,rfl,by decide +kernel,by decide +kernel⟩
noncomputable abbrev zmr:Stmt:=top 35
noncomputable abbrev zvy:List Str:=["product","index","taken"]
theorem zvp:zak zvy ["product","index","taken"] (zag zmr):=⟨rfl,rfl,rfl,by decide +kernel,rfl,by decide +kernel,by decide +kernel⟩
noncomputable abbrev zo2:Stmt:=top 36
noncomputable abbrev zzj:List Str:=["product","index"]
theorem zzc:zak zzj ["product","index"] (zag zo2):=⟨rfl,rfl,rfl,by decide +kernel,rfl,by decide +kernel,by decide +kernel⟩
noncomputable abbrev zfh:Stmt:=top 37
noncomputable abbrev zlx:List Str:=["rest","at"]
theorem zlk:zak zlx ["rest","at"] (zag zfh):=⟨rfl,rfl,rfl,by decide +kernel,rfl,by decide +kernel,by decide +kernel⟩
noncomputable abbrev zo4:Stmt:=top 38
noncomputable abbrev zzl:List Str:=["filling","equation","at","rest","index","others_left","taken","product"]
theorem c_settled:zak zzl ["filling","equation","at"] (zag zo4):=⟨rfl,rfl,rfl,by decide +kernel,rfl,by decide +kernel,by decide +kernel⟩
noncomputable abbrev zs1:Stmt:=top 39
noncomputable abbrev qbx:List Str:=["equations","count","at","equation","filling","place"]
theorem c_solved:zak qbx ["equations","count","at"] (zag zs1):=⟨rfl,rfl,rfl,by decide +kernel,rfl,by decide +kernel,by decide +kernel⟩
noncomputable abbrev zkn:Stmt:=zax (top 42) 0
noncomputable abbrev zsp:List Str:=["self","of","comes","places"]
theorem zsc:zak zsp ["self","of","comes","places"] (zag zkn):=⟨rfl,rfl,rfl,by decide +kernel,rfl,by decide +kernel,by decide +kernel⟩
noncomputable abbrev zee:Stmt:=top 43
noncomputable abbrev zi0:List Str:=["kind","numbers","product"]
theorem c_kind_in_numbers:zak zi0 ["kind"] (zag zee):=⟨rfl,rfl,rfl,by decide +kernel,rfl,by decide +kernel,by decide +kernel⟩
noncomputable abbrev zkl:Stmt:=zax (top 44) 0
noncomputable abbrev zsn:List Str:=["self","at","known"]
theorem zsb:zak zsn ["self","at","known"] (zag zkl):=⟨rfl,rfl,rfl,by decide +kernel,rfl,by decide +kernel,by decide +kernel⟩
noncomputable abbrev zdl:Stmt:=zax (top 44) 1
noncomputable abbrev zg8:List Str:=["self","count","first"]
theorem c_Work_claim_places:zak zg8 ["self","count"] (zag zdl):=⟨rfl,rfl,rfl,by decide +kernel,rfl,by decide +kernel,by decide +kernel⟩
noncomputable abbrev ze2:Stmt:=zax (top 44) 2
noncomputable abbrev zjp:List Str:=["self"]
theorem zjn:zak zjp ["self"] (zag ze2):=⟨rfl,rfl,rfl,by decide +kernel,rfl,by decide +kernel,by decide +kernel⟩
noncomputable abbrev zef:Stmt:=zax (top 44) 3
noncomputable abbrev zi1:List Str:=["self","first","second"]
theorem ziw:zak zi1 ["self","first","second"] (zag zef):=⟨rfl,rfl,rfl,by decide +kernel,rfl,by decide +kernel,by decide +kernel⟩
noncomputable abbrev zeg:Stmt:=zax (top 44) 4
noncomputable abbrev zi2:List Str:=["self","step","action"]
theorem c_Work_go_through:zak zi2 ["self","step"] (zag zeg):=⟨rfl,rfl,rfl,by decide +kernel,rfl,by decide +kernel,by decide +kernel⟩
noncomputable abbrev zdc:Stmt:=zax (top 44) 5
noncomputable abbrev zge:List Str:=["self","name","kind"]
theorem c_Work_product_named:zak zge ["self","name"] (zag zdc):=⟨rfl,rfl,rfl,by decide +kernel,rfl,by decide +kernel,by decide +kernel⟩
noncomputable abbrev zkm:Stmt:=zax (top 44) 6
noncomputable abbrev zso:List Str:=["self","kind","first","start","argument","parameter"]
theorem c_Work_call:zak zso ["self","kind"] (zag zkm):=⟨rfl,rfl,rfl,by decide +kernel,rfl,by decide +kernel,by decide +kernel⟩
noncomputable abbrev zc1:Stmt:=zax (top 44) 7
noncomputable abbrev zfw:List Str:=["self","action","second","first"]
theorem c_Work_bring_together:zak zfw ["self","action"] (zag zc1):=⟨rfl,rfl,rfl,by decide +kernel,rfl,by decide +kernel,by decide +kernel⟩
noncomputable abbrev zed:Stmt:=top 45
noncomputable abbrev ziz:List Str:=["products","order","product","place","exponent"]
theorem c_places_in_order:zak ziz ["products"] (zag zed):=⟨rfl,rfl,rfl,by decide +kernel,rfl,by decide +kernel,by decide +kernel⟩
noncomputable abbrev zfe:Stmt:=top 46
noncomputable abbrev zlt:List Str:=["product","order","places","place"]
theorem c_numbered_anew:zak zlt ["product","order"] (zag zfe):=⟨rfl,rfl,rfl,by decide +kernel,rfl,by decide +kernel,by decide +kernel⟩
noncomputable abbrev zkj:Stmt:=top 47
noncomputable abbrev zsl:List Str:=["parameters","comes","order","product"]
theorem c_kind_from:zak zsl ["parameters","comes"] (zag zkj):=⟨rfl,rfl,rfl,by decide +kernel,rfl,by decide +kernel,by decide +kernel⟩
noncomputable abbrev zdb:Stmt:=top 48
noncomputable abbrev zgd:List Str:=["at","item","known","work","name","step","filling","parameters"]
theorem c_kind_of_expression:zak zgd ["at","item","known"] (zag zdb):=⟨rfl,rfl,rfl,by decide +kernel,rfl,by decide +kernel,by decide +kernel⟩
noncomputable abbrev zmt:Stmt:=top 49
noncomputable abbrev zv0:List Str:=["sheet","known","units","at","item"]
theorem c_kinds_of:zak zv0 ["sheet"] (zag zmt):=⟨rfl,rfl,rfl,by decide +kernel,rfl,by decide +kernel,by decide +kernel⟩
noncomputable abbrev zgh:Stmt:=top 54
noncomputable abbrev zmh:List Str:=["sheet","units","at","item"]
theorem c_check_counts:zak zmh ["sheet"] (zag zgh):=⟨rfl,rfl,rfl,by decide +kernel,rfl,by decide +kernel,by decide +kernel⟩
noncomputable abbrev zff:Stmt:=top 55
noncomputable abbrev zlv:List Str:=["item","before","seen","name"]
theorem c_names_are_new:zak zlv ["item","before"] (zag zff):=⟨rfl,rfl,rfl,by decide +kernel,rfl,by decide +kernel,by decide +kernel⟩
noncomputable abbrev zfd:Stmt:=top 56
noncomputable abbrev zls:List Str:=["step","item","before","name"]
theorem c_step_is_right:zak zls ["step","item","before"] (zag zfd):=⟨rfl,rfl,rfl,by decide +kernel,rfl,by decide +kernel,by decide +kernel⟩
noncomputable abbrev zfg:Stmt:=top 57
noncomputable abbrev zlw:List Str:=["item","before","step"]
theorem c_item_is_right:zak zlw ["item","before"] (zag zfg):=⟨rfl,rfl,rfl,by decide +kernel,rfl,by decide +kernel,by decide +kernel⟩
noncomputable abbrev zhl:Stmt:=top 58
noncomputable abbrev zoh:List Str:=["sheet","before","at","item"]
theorem c_check_right:zak zoh ["sheet"] (zag zhl):=⟨rfl,rfl,rfl,by decide +kernel,rfl,by decide +kernel,by decide +kernel⟩
noncomputable abbrev zo3:Stmt:=top 72
noncomputable abbrev zzk:List Str:=["t","signs","sign_of","sign","byte"]
theorem c_text_of:zak zzk ["t"] (zag zo3):=⟨rfl,rfl,rfl,by decide +kernel,rfl,by decide +kernel,by decide +kernel⟩
noncomputable abbrev zi9:Stmt:=top 73
noncomputable abbrev zqu:List Str:=["text","start","signs","end"]
theorem c_end_of_run:zak zqu ["text","start","signs"] (zag zi9):=⟨rfl,rfl,rfl,by decide +kernel,rfl,by decide +kernel,by decide +kernel⟩
noncomputable abbrev zo6:Stmt:=top 74
noncomputable abbrev zzn:List Str:=["text","start","name"]
theorem c_name_at:zak zzn ["text","start"] (zag zo6):=⟨rfl,rfl,rfl,by decide +kernel,rfl,by decide +kernel,by decide +kernel⟩
noncomputable abbrev zki:Stmt:=top 75
noncomputable abbrev zsk:List Str:=["text","start","end","count","behind"]
theorem c_number_at:zak zsk ["text","start"] (zag zki):=⟨rfl,rfl,rfl,by decide +kernel,rfl,by decide +kernel,by decide +kernel⟩
noncomputable abbrev zmq:Stmt:=top 76
noncomputable abbrev zvx:List Str:=["text","start","sign"]
theorem c_token_at:zak zvx ["text","start"] (zag zmq):=⟨rfl,rfl,rfl,by decide +kernel,rfl,by decide +kernel,by decide +kernel⟩
noncomputable abbrev zs3:Stmt:=top 77
noncomputable abbrev qbz:List Str:=["text","tokens","start","token"]
theorem c_parted:zak qbz ["text"] (zag zs3):=⟨rfl,rfl,rfl,by decide +kernel,rfl,by decide +kernel,by decide +kernel⟩
noncomputable abbrev zkf:Stmt:=top 78
noncomputable abbrev zsh:List Str:=["t","tokens"]
theorem c_tokens_of:zak zsh ["t"] (zag zkf):=⟨rfl,rfl,rfl,by decide +kernel,rfl,by decide +kernel,by decide +kernel⟩
noncomputable abbrev zi7:Stmt:=top 80
noncomputable abbrev zqs:List Str:=["t","sheet"]
theorem c_read_kinds:zak zqs ["t"] (zag zi7):=⟨rfl,rfl,rfl,by decide +kernel,rfl,by decide +kernel,by decide +kernel⟩
noncomputable abbrev zo7:Stmt:=top 81
noncomputable abbrev zzo:List Str:=["k","t","kinds"]
theorem c_kind_at:zak zzo ["k","t"] (zag zo7):=⟨rfl,rfl,rfl,by decide +kernel,rfl,by decide +kernel,by decide +kernel⟩
noncomputable abbrev zi6:Stmt:=top 82
noncomputable abbrev zqr:List Str:=["k","t","kind","refusal"]
theorem c_un_kind_of:zak zqr ["k","t"] (zag zi6):=⟨rfl,rfl,rfl,by decide +kernel,rfl,by decide +kernel,by decide +kernel⟩
noncomputable abbrev lpNP:Pos:=⟨224,28,224,58⟩
noncomputable def qNP:Str:=("nearest_place"++".<locals>.")++"<lambda>"
structure Ad where
 R:Addr
 Item:Addr
 Reader:Addr
 Kind:Addr
 Work:Addr
 WORDS:Addr
 cNP:Addr
 pNP:Addr
structure Txt(K:qfa)(mg:Str->Option Value)(ad:Ad):Prop where
 M:MG K mg
 f_items_of:GF K "items_of" zmu ["tokens"]
 f_nothing:GF K "nothing" zo5 []
 f_mark_alone:GF K "mark_alone" zi8 ["mark"]
 f_place_alone:GF K "place_alone" zhk ["place"]
 f_times:GF K "times" zwt ["first","second"]
 f_divided:GF K "divided" zo8 ["first","second"]
 f_raised:GF K "raised" zs2 ["product","power"]
 f_within:GF K "within" zs0 ["product","bound"]
 f_marks_of:GF K "marks_of" zms ["product"]
 f_places_of:GF K "places_of" zkh ["product"]
 f_product_in_numbers:GF K "product_in_numbers" zda ["product"]
 f_moved:GF K "moved" zwu ["product","first"]
 f_filled_in:GF K "filled_in" zkk ["product","filling"]
 f_bounded:GF K "bounded" zo9 ["product","at"]
 f_nearest_place:GF K "nearest_place" zdk ["rest"]
 f_quotients:GF K "quotients" zkg ["rest","index"]
 f_narrowed:GF K "narrowed" zmr ["product","index","taken"]
 f_without:GF K "without" zo2 ["product","index"]
 f_check_no_mark:GF K "check_no_mark" zfh ["rest","at"]
 f_settled:GF K "settled" zo4 ["filling","equation","at"]
 f_solved:GF K "solved" zs1 ["equations","count","at"]
 f_kind_in_numbers:GF K "kind_in_numbers" zee ["kind"]
 f_places_in_order:GF K "places_in_order" zed ["products"]
 f_numbered_anew:GF K "numbered_anew" zfe ["product","order"]
 f_kind_from:GF K "kind_from" zkj ["parameters","comes"]
 f_kind_of_expression:GF K "kind_of_expression" zdb ["at","item","known"]
 f_kinds_of:GF K "kinds_of" zmt ["sheet"]
 f_check_counts:GF K "check_counts" zgh ["sheet"]
 f_names_are_new:GF K "names_are_new" zff ["item","before"]
 f_step_is_right:GF K "step_is_right" zfd ["step","item","before"]
 f_item_is_right:GF K "item_is_right" zfg ["item","before"]
 f_check_right:GF K "check_right" zhl ["sheet"]
 f_text_of:GF K "text_of" zo3 ["t"]
 f_end_of_run:GF K "end_of_run" zi9 ["text","start","signs"]
 f_name_at:GF K "name_at" zo6 ["text","start"]
 f_number_at:GF K "number_at" zki ["text","start"]
 f_token_at:GF K "token_at" zmq ["text","start"]
 f_parted:GF K "parted" zs3 ["text"]
 f_tokens_of:GF K "tokens_of" zkf ["t"]
 f_read_kinds:GF K "read_kinds" zi7 ["t"]
 f_kind_at:GF K "kind_at" zo7 ["k","t"]
 f_un_kind_of:GF K "un_kind_of" zi6 ["k","t"]
 c_np:GFC K "nearest_place" zdk ["rest"] ad.cNP ad.pNP
 k_DEEPEST:∃t,mg "DEEPEST"=some (.int 32 t)
 k_END:∃t,mg "END"=some (.str "end" t)
 k_MARKS:∃t,mg "MARKS"=some (.int 8 t)
 k_PLACES:∃t,mg "PLACES"=some (.int 24 t)
 k_LARGEST:∃t,mg "LARGEST"=some (.int 1073741824 t)
 k_LARGEST_TOLD:∃t,mg "LARGEST_TOLD"=some (.int 1048576 t)
 k_MOST_EQUATIONS:∃t,mg "MOST_EQUATIONS"=some (.int 256 t)
 k_MOST_ITEMS:∃t,mg "MOST_ITEMS"=some (.int 64 t)
 k_MOST_UNITS:∃t,mg "MOST_UNITS"=some (.int 8 t)
 k_MOST_PARAMETERS:∃t,mg "MOST_PARAMETERS"=some (.int 6 t)
 k_MOST_BYTES:∃t,mg "MOST_BYTES"=some (.int 8192 t)
 k_MOST_TOKENS:∃t,mg "MOST_TOKENS"=some (.int 2048 t)
 k_LONGEST_NAME:∃t,mg "LONGEST_NAME"=some (.int 16 t)
 k_MOST_DIGITS:∃t,mg "MOST_DIGITS"=some (.int 15 t)
 k_LETTERS:∃t,mg "LETTERS"=some (.str "abcdefghijklmnopqrstuvwxyz" t)
 k_DIGITS:∃t,mg "DIGITS"=some (.str "0123456789" t)
 k_NAME_SIGNS:∃t,mg "NAME_SIGNS"=some (.str "abcdefghijklmnopqrstuvwxyz0123456789_" t)
 k_SIGNS:∃t,mg "SIGNS"=some (.str "(),;=+-*/^<" t)
 k_BLANKS:∃t,mg "BLANKS"=some (.str " \n" t)
 k_POINT:∃t,mg "POINT"=some (.str "." t)
 k_STRANGE:∃t,mg "STRANGE"=some (.str "?" t)
 k_WORDS:mg "WORDS"=some (.ref ad.WORDS)/\∀H:Hp,SqT K H ad.WORDS [V.str "unit",V.str "let",V.str "fn",V.str "if",V.str "then",V.str "else"]
 z_zip:mg "zip"=none
 z_len:mg "len"=none
 z_range:mg "range"=none
 z_min:mg "min"=none
 z_max:mg "max"=none
 z_any:mg "any"=none
 z_all:mg "all"=none
 z_abs:mg "abs"=none
 z_enumerate:mg "enumerate"=none
 z_ord:mg "ord"=none
 z_dict:mg "dict"=none
 z_int:mg "int"=none
 g_R:mg "Refusal"=some (.ref ad.R)
 rc:RCls K ad.R
 r_init:∃f fd,qb0 K ad.R "__init__" f/\Fun K "__init__" "Refusal.__init__" zgj f fd/\Binds K fd ["self","number","at"] []
 x_TooMuch:∃C f fd,XMk K C ad.R f/\mg "TooMuch"=some (.ref C)/\Fun K "__init__" "TooMuch.__init__" zgi f fd/\Binds K fd ["self","at"] []
 x_NoSheet:∃C f fd,XMk K C ad.R f/\mg "NoSheet"=some (.ref C)/\Fun K "__init__" "NoSheet.__init__" zgl f fd/\Binds K fd ["self"] []
 x_NotRight:∃C f fd,XMk K C ad.R f/\mg "NotRight"=some (.ref C)/\Fun K "__init__" "NotRight.__init__" zfj f fd/\Binds K fd ["self","at"] []
 x_NotAlike:∃C f fd,XMk K C ad.R f/\mg "NotAlike"=some (.ref C)/\Fun K "__init__" "NotAlike.__init__" zfk f fd/\Binds K fd ["self","at"] []
 x_TooLarge:∃C f fd,XMk K C ad.R f/\mg "TooLarge"=some (.ref C)/\Fun K "__init__" "TooLarge.__init__" zfi f fd/\Binds K fd ["self","at"] []
 x_NoItem:∃C f fd,XMk K C ad.R f/\mg "NoItem"=some (.ref C)/\Fun K "__init__" "NoItem.__init__" zho f fd/\Binds K fd ["self"] []
 g_Item:mg "Item"=some (.ref ad.Item)
 l_Item:Cls K ad.Item
 i_Item:∃f fd,Mk K ad.Item f/\Fun K "__init__" "Item.__init__" zko f fd/\Binds K fd ["self","word","name","parameters","steps"] []
 n_Item_word:NoAttr K ad.Item "word"
 n_Item_name:NoAttr K ad.Item "name"
 n_Item_parameters:NoAttr K ad.Item "parameters"
 n_Item_steps:NoAttr K ad.Item "steps"
 g_Reader:mg "Reader"=some (.ref ad.Reader)
 l_Reader:Cls K ad.Reader
 i_Reader:∃f fd,Mk K ad.Reader f/\Fun K "__init__" "Reader.__init__" zhn f fd/\Binds K fd ["self","tokens"] []
 n_Reader_tokens:NoAttr K ad.Reader "tokens"
 n_Reader_position:NoAttr K ad.Reader "position"
 n_Reader_steps:NoAttr K ad.Reader "steps"
 m_Reader_ahead:GM K ad.Reader "ahead" "Reader.ahead" zgk ["self"]
 m_Reader_take:GM K ad.Reader "take" "Reader.take" zhm ["self","sort"]
 m_Reader_take_if:GM K ad.Reader "take_if" "Reader.take_if" ze3 ["self","sort"]
 m_Reader_put:GM K ad.Reader "put" "Reader.put" zja ["self","action","name","number"]
 m_Reader_read_sheet:GM K ad.Reader "read_sheet" "Reader.read_sheet" zdm ["self"]
 m_Reader_read_item:GM K ad.Reader "read_item" "Reader.read_item" zd2 ["self"]
 m_Reader_read_parameters:GM K ad.Reader "read_parameters" "Reader.read_parameters" zcc ["self"]
 m_Reader_read_meaning:GM K ad.Reader "read_meaning" "Reader.read_meaning" zc2 ["self"]
 m_Reader_read_expression:GM K ad.Reader "read_expression" "Reader.read_expression" zcd ["self","depth"]
 m_Reader_read_sum:GM K ad.Reader "read_sum" "Reader.read_sum" zeh ["self","depth"]
 m_Reader_read_term:GM K ad.Reader "read_term" "Reader.read_term" zd0 ["self","depth"]
 m_Reader_read_power:GM K ad.Reader "read_power" "Reader.read_power" zdn ["self","depth"]
 m_Reader_read_factor:GM K ad.Reader "read_factor" "Reader.read_factor" zde ["self","depth"]
 m_Reader_read_number:GM K ad.Reader "read_number" "Reader.read_number" zdd ["self"]
 m_Reader_read_name:GM K ad.Reader "read_name" "Reader.read_name" zd1 ["self","depth"]
 m_Reader_read_arguments:GM K ad.Reader "read_arguments" "Reader.read_arguments" zcn ["self","depth"]
 g_Kind:mg "Kind"=some (.ref ad.Kind)
 l_Kind:Cls K ad.Kind
 i_Kind:∃f fd,Mk K ad.Kind f/\Fun K "__init__" "Kind.__init__" zkn f fd/\Binds K fd ["self","of","comes","places"] []
 n_Kind_of:NoAttr K ad.Kind "of"
 n_Kind_comes:NoAttr K ad.Kind "comes"
 n_Kind_places:NoAttr K ad.Kind "places"
 g_Work:mg "Work"=some (.ref ad.Work)
 l_Work:Cls K ad.Work
 i_Work:∃f fd,Mk K ad.Work f/\Fun K "__init__" "Work.__init__" zkl f fd/\Binds K fd ["self","at","known"] []
 n_Work_at:NoAttr K ad.Work "at"
 n_Work_known:NoAttr K ad.Work "known"
 n_Work_own:NoAttr K ad.Work "own"
 n_Work_used:NoAttr K ad.Work "used"
 n_Work_equations:NoAttr K ad.Work "equations"
 n_Work_came:NoAttr K ad.Work "came"
 m_Work_claim_places:GM K ad.Work "claim_places" "Work.claim_places" zdl ["self","count"]
 m_Work_new_place:GM K ad.Work "new_place" "Work.new_place" ze2 ["self"]
 m_Work_tell_alike:GM K ad.Work "tell_alike" "Work.tell_alike" zef ["self","first","second"]
 m_Work_go_through:GM K ad.Work "go_through" "Work.go_through" zeg ["self","step"]
 m_Work_product_named:GM K ad.Work "product_named" "Work.product_named" zdc ["self","name"]
 m_Work_call:GM K ad.Work "call" "Work.call" zkm ["self","kind"]
 m_Work_bring_together:GM K ad.Work "bring_together" "Work.bring_together" zc1 ["self","action"]
theorem bnd0{P:List Value->Prop}(h:P []):∀us,us.length=0->P us
 |[],_=>h
theorem zjj{P:List Value->Prop}(h:∀x0,P [x0]):∀us,us.length=1->P us
 |[x0],_=>h x0
theorem ze6{P:List Value->Prop}(h:∀x0 x1,P [x0,x1]):∀us,us.length=2->P us
 |[x0,x1],_=>h x0 x1
theorem qbv{P:List Value->Prop}(h:∀x0 x1 x2,P [x0,x1,x2]):∀us,us.length=3->P us
 |[x0,x1,x2],_=>h x0 x1 x2
theorem bnd4{P:List Value->Prop}(h:∀x0 x1 x2 x3,P [x0,x1,x2,x3]):∀us,us.length=4->P us
 |[x0,x1,x2,x3],_=>h x0 x1 x2 x3
theorem bnd5{P:List Value->Prop}(h:∀x0 x1 x2 x3 x4,P [x0,x1,x2,x3,x4]):∀us,us.length=5->P us
 |[x0,x1,x2,x3,x4],_=>h x0 x1 x2 x3 x4
section
variable{K:qfa}{mg:Str->Option Value}{h:Heap}
theorem ziv{x:Str}{i:Int}{t:Tok}(X:K.In h)(G:h.Ns mainGlobals mg)(e:qhs K mainGlobals x=some (some (.int i t))):∃t,mg x=some (.int i t):=⟨t,qhk X G e⟩
theorem zqd{x:Str}{i:Str}{t:Tok}(X:K.In h)(G:h.Ns mainGlobals mg)(e:qhs K mainGlobals x=some (some (.str i t))):∃t,mg x=some (.str i t):=⟨t,qhk X G e⟩
theorem c_tup6{x:Str}{a:Addr}{s1 s2 s3 s4 s5 s6:Str}{t1 t2 t3 t4 t5 t6:Tok}{od:Option Addr}{n:Nat}{sl:Array (Option Value)}(X:K.In h)(G:h.Ns mainGlobals mg)(e:qhs K mainGlobals x=some (some (.ref a)))(l:K.lookup a=some ⟨.type "tuple",od,.seq #[.str s1 t1,.str s2 t2,.str s3 t3,.str s4 t4,.str s5 t5,.str s6 t6] n,sl⟩):mg x=some (.ref a)/\∀H:Hp,SqT K H a [V.str s1,V.str s2,V.str s3,V.str s4,V.str s5,V.str s6]:=
 ⟨qhk X G e,λH=>.inr ⟨_,_,_,l,rfl,rfl,by show 6<=sizeLine;decide,.cons ⟨_,rfl⟩ (.cons ⟨_,rfl⟩ (.cons ⟨_,rfl⟩ (.cons ⟨_,rfl⟩ (.cons ⟨_,rfl⟩ (.cons ⟨_,rfl⟩ .nil)))))⟩⟩
theorem qe6{x qual:Str}{C R f:Addr}{st:Stmt}{ps:List Str}{nm q:Str}{N:Addr}{bs:List Value}{sn:List Str}{sub:List Value}{ab:Bool}{col:Option Bool}{dd:Option Addr}{k0 k1 k2 k3 k5:Option Value}{oc:Value}{od an:Option Addr}{osl:Array (Option Value)}{kV doc pm cdv ct:Value}(X:K.In h)(G:h.Ns mainGlobals mg)(a:qhs K mainGlobals x=some (some (.ref C)))(c:K.lookup C=some (L3.clsX nm q C R N bs sn sub ab col dd k0 k1 k2 k3 k5))(sa:qfp K (.ref C) "__setattr__"=some (some (.builtin "object.__setattr__")))(ga:qfp K (.ref C) "__getattribute__"=some (some (.builtin "BaseException.__getattribute__")))(gh:qfp K (.ref C) "__getattr__"=some none)(nn:qfp K (.ref C) "number"=some none)(na:qfp K (.ref C) "at"=some none)(kp:qgp K (.ref C)=true)(i:qfp K (.ref C) "__init__"=some (some (.ref f)))(fn:qin K (.ref f)=true)(l:K.lookup f=some ⟨oc,od,.func (qgo "__init__" qual (zbv st) (zbi st) (zag st) .none kV doc pm an cdv ct),osl⟩)(cd:qhg K cdv qual=true)(kf:qgp K (.ref f)=true)(b:∀(kV doc pm:Value) (an:Option Addr) (cdv ct:Value) (us:List Value),us.length=ps.length->bindArgs (qgo "__init__" qual (zbv st) (zbi st) (zag st) .none kV doc pm an cdv ct) ⟨us,[]⟩=pure (ps.zip us)) :
  ∃C f fd,XMk K C R f/\mg x=some (.ref C)/\Fun K "__init__" qual st f fd/\Binds K fd ps []:=
 ⟨C,f,_,⟨⟨⟨_,_,_,_,_,_,_,_,_,_,_,_,_,_,c⟩,sa,ga,gh,nn,na,kp⟩,i,fn⟩,qhk X G a,zgm l cd kf,(zgm l cd kf).binds b⟩
theorem r_mk{R:Addr}{nm q:Str}{N:Addr}{bs:List Value}{sn:List Str}{sub:List Value}{ab:Bool}{col:Option Bool}{dd:Option Addr}{k0 k1 k2 k3 k5:Option Value}(c:K.lookup R=some (excClassObj nm q R N bs L3.bmE true sn sub ab col dd k0 k1 k2 k3 k5 "Exception.__new__")):RCls K R:=⟨_,_,_,_,_,_,_,_,_,_,_,_,_,_,c⟩
theorem ri_mk{R f:Addr}{st:Stmt}{ps:List Str}{m qual:Str}{oc:Value}{od an:Option Addr}{osl:Array (Option Value)}{kV doc pm cdv ct:Value}(s1:PySem.W.specialIn K (.ref R) "__getattribute__"=some (some (.builtin "type.__getattribute__")))(s2:PySem.W.readsIn K R (.type "type")=true)(s3:PySem.W.findCls K (.ref R) (.type "type") m=some (.val (.ref f)))(l:K.lookup f=some ⟨oc,od,.func (qgo m qual (zbv st) (zbi st) (zag st) .none kV doc pm an cdv ct),osl⟩)(cd:qhg K cdv qual=true)(kf:qgp K (.ref f)=true)(b:∀(kV doc pm:Value) (an:Option Addr) (cdv ct:Value) (us:List Value),us.length=ps.length->bindArgs (qgo m qual (zbv st) (zbi st) (zag st) .none kV doc pm an cdv ct) ⟨us,[]⟩=pure (ps.zip us)) :
  ∃f fd,qb0 K R m f/\Fun K m qual st f fd/\Binds K fd ps []:=⟨f,_,⟨s1,s2,s3,kf⟩,zgm l cd kf,(zgm l cd kf).binds b⟩
theorem i_mk{C f:Addr}{st:Stmt}{ps:List Str}{qual:Str}{oc:Value}{od an:Option Addr}{osl:Array (Option Value)}{kV doc pm cdv ct:Value}(mk:qj9 K C=true)(i:qfp K (.ref C) "__init__"=some (some (.ref f)))(fn:qin K (.ref f)=true)(kp:qgp K (.ref C)=true)(l:K.lookup f=some ⟨oc,od,.func (qgo "__init__" qual (zbv st) (zbi st) (zag st) .none kV doc pm an cdv ct),osl⟩)(cd:qhg K cdv qual=true)(kf:qgp K (.ref f)=true)(b:∀(kV doc pm:Value) (an:Option Addr) (cdv ct:Value) (us:List Value),us.length=ps.length->bindArgs (qgo "__init__" qual (zbv st) (zbi st) (zag st) .none kV doc pm an cdv ct) ⟨us,[]⟩=pure (ps.zip us)) :
  ∃f fd,Mk K C f/\Fun K "__init__" qual st f fd/\Binds K fd ps []:=⟨f,_,⟨mk,i,fn,kp⟩,zgm l cd kf,(zgm l cd kf).binds b⟩
end
section
variable{P:Program}{w:World}{K:qfa}{mg:Str->Option Value}{base:Heap}{ad:Ad}
def spR(K:qfa)(R:Addr):Sp:=λvs H Q _=>∃(C e:Addr)(n k:Int),vs=[.ref e,.int n,.int k]/\H e=some (zzw C e)/\zvv K C R/\∀dx H',dx≠e->H' e=some (xob C dx e)->H' dx=some (xdo dx (xf n k))->Q .non H'
theorem put_at(n k:Int):zmz "at" (.int k) [(("number":Str),V.int n)]=xf n k:=by
 show (if ("number":Str)="at" then _ else _)=_
 rw[if_neg (by decide +kernel)]
 rfl
theorem qe7(T:Txt K mg ad):∃f fd,qb0 K ad.R "__init__" f/\Binds K fd ["self","number","at"] []/\FnOk P w K mg base (CX1 P w) 1 f fd ["self","number","at"] (spR K ad.R):=by
 obtain⟨f,fd,cm,F,hb⟩:=T.r_init
 refine⟨f,fd,cm,hb,F.okX zme (λvs H Q E h=>?_) (λcdv A outer s H vs Q E hr h=>?_)⟩
 ·obtain⟨C,e,n,k,rfl,_⟩:=h
  rfl
 ·obtain⟨C,e,n,k,rfl,he,xc,q⟩:=h
  refine⟨_,zad (qak (pv 0) (pv 1) rfl) (zaf (qaj (pv 0) (pv 2) rfl)),?_⟩
  refine⟨_,rfl,_,rfl,e,C,ad.R,rfl,he,xc,xc.nn,λdx hd ne=>?_⟩
  refine⟨_,rfl,_,rfl,e,C,ad.R,dx,_,rfl,(by rw[zai ne.symm,zac]),zac,ne,xc,xc.na,(by show 1<=1000;decide),?_⟩
  refine q dx _ ne (by rw[zai ne.symm,zai ne.symm,zac]) (by rw[zac,put_at])
theorem zf4(T:Txt K mg ad):OkX P w K mg base ad.R 2 "TooMuch" (-28):=by
 obtain⟨C,f,fd,M,hm,F,hb⟩:=T.x_TooMuch
 obtain⟨g,gd,cm,gb,G⟩:=qe7 (P:=P) (w:=w) (base:=base) T
 refine⟨C,f,fd,M,hm,hb,F.okX zmd (λvs H Q E h=>?_) (λcdv A outer s H vs Q E hr h=>?_)⟩
 ·obtain⟨e,k,rfl,_⟩:=h
  rfl
 ·obtain⟨e,k,rfl,he,q⟩:=h
  refine⟨_,zaf (zal (zif cm G hr rfl T.g_R gb (zc8 zab) (zaa (pv 0) (zaa (zrb zj9 zan) (zaa (pv 1) zae))))),?_⟩
  exact⟨_,rfl,_,rfl,_,rfl,C,e,-28,k,rfl,he,M.cl,λdx H' ne e1 e2=>q dx H' ne e1 e2⟩
theorem zky(T:Txt K mg ad):OkX P w K mg base ad.R 2 "NotRight" (-22):=by
 obtain⟨C,f,fd,M,hm,F,hb⟩:=T.x_NotRight
 obtain⟨g,gd,cm,gb,G⟩:=qe7 (P:=P) (w:=w) (base:=base) T
 refine⟨C,f,fd,M,hm,hb,F.okX zlm (λvs H Q E h=>?_) (λcdv A outer s H vs Q E hr h=>?_)⟩
 ·obtain⟨e,k,rfl,_⟩:=h
  rfl
 ·obtain⟨e,k,rfl,he,q⟩:=h
  refine⟨_,zaf (zal (zif cm G hr rfl T.g_R gb (zc8 zab) (zaa (pv 0) (zaa (zrb zj9 zan) (zaa (pv 1) zae))))),?_⟩
  exact⟨_,rfl,_,rfl,_,rfl,C,e,-22,k,rfl,he,M.cl,λdx H' ne e1 e2=>q dx H' ne e1 e2⟩
theorem zrh(T:Txt K mg ad):OkX P w K mg base ad.R 2 "NotAlike" (-61):=by
 obtain⟨C,f,fd,M,hm,F,hb⟩:=T.x_NotAlike
 obtain⟨g,gd,cm,gb,G⟩:=qe7 (P:=P) (w:=w) (base:=base) T
 refine⟨C,f,fd,M,hm,hb,F.okX zln (λvs H Q E h=>?_) (λcdv A outer s H vs Q E hr h=>?_)⟩
 ·obtain⟨e,k,rfl,_⟩:=h
  rfl
 ·obtain⟨e,k,rfl,he,q⟩:=h
  refine⟨_,zaf (zal (zif cm G hr rfl T.g_R gb (zc8 zab) (zaa (pv 0) (zaa (zrb zj9 zan) (zaa (pv 1) zae))))),?_⟩
  exact⟨_,rfl,_,rfl,_,rfl,C,e,-61,k,rfl,he,M.cl,λdx H' ne e1 e2=>q dx H' ne e1 e2⟩
theorem zrg(T:Txt K mg ad):OkX P w K mg base ad.R 2 "TooLarge" (-75):=by
 obtain⟨C,f,fd,M,hm,F,hb⟩:=T.x_TooLarge
 obtain⟨g,gd,cm,gb,G⟩:=qe7 (P:=P) (w:=w) (base:=base) T
 refine⟨C,f,fd,M,hm,hb,F.okX zll (λvs H Q E h=>?_) (λcdv A outer s H vs Q E hr h=>?_)⟩
 ·obtain⟨e,k,rfl,_⟩:=h
  rfl
 ·obtain⟨e,k,rfl,he,q⟩:=h
  refine⟨_,zaf (zal (zif cm G hr rfl T.g_R gb (zc8 zab) (zaa (pv 0) (zaa (zrb zj9 zan) (zaa (pv 1) zae))))),?_⟩
  exact⟨_,rfl,_,rfl,_,rfl,C,e,-75,k,rfl,he,M.cl,λdx H' ne e1 e2=>q dx H' ne e1 e2⟩
theorem zdj(T:Txt K mg ad):OkX0 P w K mg base ad.R 2 "NoSheet" (-71):=by
 obtain⟨C,f,fd,M,hm,F,hb⟩:=T.x_NoSheet
 obtain⟨g,gd,cm,gb,G⟩:=qe7 (P:=P) (w:=w) (base:=base) T
 refine⟨C,f,fd,M,hm,hb,F.okX zmg (λvs H Q E h=>?_) (λcdv A outer s H vs Q E hr h=>?_)⟩
 ·obtain⟨e,rfl,_⟩:=h
  rfl
 ·obtain⟨e,rfl,he,q⟩:=h
  refine⟨_,zaf (zal (zif cm G hr rfl T.g_R gb (zc8 zab) (zaa (pv 0) (zaa (zrb zj9 zan) (zaa zan zae))))),?_⟩
  exact⟨_,rfl,_,rfl,C,e,-71,0,rfl,he,M.cl,λdx H' ne e1 e2=>q dx H' ne e1 e2⟩
end
abbrev LI(H:Hp)(p:Addr)(ns:List Int):Prop:=H p=some (.lst (ns.map V.int))
def zsg(H:Hp)(Q:VK)(ys:List Int):Prop:=∀r H',H r=none->Same H H'->LI H' r ys->Q (.ref r) H'
def zwk:Sp:=λvs H Q _=>vs=[]/\zsg H Q (qfk 32 0)
def spMark:Sp:=λvs H Q _=>∃i:Nat,vs=[.int i]/\i<8/\zsg H Q ((qfk 32 0).set i 1)
def qc7:Sp:=λvs H Q _=>∃p:Nat,vs=[.int p]/\p<24/\zsg H Q ((qfk 32 0).set (8+p) 1)
def sp2(f:Int->Int->Int):Sp:=λvs H Q _=>∃(a b:Addr)(xs ys:List Int),vs=[.ref a,.ref b]/\LI H a xs/\LI H b ys/\xs.length<=1000/\zsg H Q (qfs f xs ys)
def zz6:Sp:=λvs H Q _=>∃(a:Addr)(xs:List Int)(k:Int),vs=[.ref a,.int k]/\LI H a xs/\xs.length<=1000/\(-(2 ^ 64)<k/\k<2 ^ 64)/\zsg H Q (xs.map (·*k))
def inB(b:Int)(xs:List Int):Bool:=xs.all λk=>decide (-b<=k) && decide (k<=b)
def zz2:Sp:=λvs H Q _=>∃(a:Addr)(xs:List Int)(b:Int),vs=[.ref a,.int b]/\LI H a xs/\0<xs.length/\Q (.bl (inB b xs)) H
def qdb:Sp:=λvs H Q _=>∃(a:Addr)(xs:List Int),vs=[.ref a]/\LI H a xs/\zsg H Q (xs.take 8)
def zz7:Sp:=λvs H Q _=>∃(a:Addr)(xs:List Int),vs=[.ref a]/\LI H a xs/\zsg H Q (xs.drop 8)
def qda:Sp:=λvs H Q _=>∃(a:Addr)(xs:List Int)(k:Nat),vs=[.ref a,.int k]/\LI H a xs/\k<=24/\xs.length<=1000/\zsg H Q (xs.take 8++qfk k 0++(xs.drop 8).take (24 - k))
theorem zhp(n:Nat):(qfk n [V.int 0]).flatten=(qfk n (0:Int)).map V.int:=by
 induction n with
 |zero=>rfl
 |succ n ih=>rw[qhd,qh8,ih,qhd];rfl
theorem map_set(l:List Int)(i:Nat)(x:Int):(l.map V.int).set i (.int x)=(l.set i x).map V.int:=(List.map_set ..).symm
theorem zp9(xs:List Int)(k:Nat):zqa (xs.map V.int) none (some (k:Int))=(xs.take k).map V.int:=by
 unfold zqa
 rw[HT.sIx_none,HT.sIx_nat,qhu,Nat.sub_zero,qe9,<-qja]
 congr 1
 by_cases h:k<=xs.length
 ·rw[qh4 h]
 ·rw[qih (by lia),qf4 (by lia),qf4 (by lia)]
theorem zy8(xs:List Int)(k:Nat):zqa (xs.map V.int) (some (k:Int)) none=(xs.drop k).map V.int:=by
 unfold zqa
 rw[HT.sIx_none,HT.sIx_nat,qe9,<-qiq,<-qja]
 congr 1
 by_cases h:k<=xs.length
 ·rw[qh4 h,qf4 (by simp)]
 ·rw[qih (by lia),qho (by lia),qho (by lia)];simp
section
variable{P:Program}{w:World}{K:qfa}{mg:Str->Option Value}{base:Heap}{ad:Ad}
theorem zij(T:Txt K mg ad):Ok P w K mg base 1 "nothing" [] zwk:=by
 obtain⟨t1,hM⟩:=T.k_MARKS
 obtain⟨t2,hP⟩:=T.k_PLACES
 refine T.f_nothing.ok T.M zzd (λvs H Q E h=>?_) (λf cdv A outer s H vs Q E hr h=>?_)
 ·obtain⟨rfl,_⟩:=h
  rfl
 ·obtain⟨rfl,q⟩:=h
  refine⟨_,zaf (zaq (za8 ztg (zbm (zaa zan zae)) (za8 zb8 (zat (v:=.int 8) rfl hM ⟨_,rfl⟩) (zat (v:=.int 24) rfl hP ⟨_,rfl⟩)))),?_⟩
  refine⟨(by show 1<=sizeLine;decide),λl hl=>?_⟩
  refine⟨_,_,rfl,rfl,l,_,_,rfl,rfl,zac,(by decide),(by decide),(by show 1*32<=sizeLine;decide),λp hp=>?_⟩
  have s1:Same H (upd H l (.lst [.int 0])):=zaj hl _
  refine q p _ (s1.free hp) (s1.trans (zaj hp _)) ?_
  show upd _ _ _ _=_
  rw[zac]
  exact congrArg (λz=>some (HO.lst z)) (zhp 32)
theorem qeb(T:Txt K mg ad):Ok P w K mg base 2 "mark_alone" ["mark"] spMark:=by
 have O:=zij (P:=P) (w:=w) (base:=base) T
 refine T.f_mark_alone.ok T.M c_mark_alone (λvs H Q E h=>?_) (λf cdv A outer s H vs Q E hr h=>?_)
 ·obtain⟨i,rfl,_⟩:=h
  rfl
 ·obtain⟨i,rfl,hi,q⟩:=h
  refine⟨_,zad (zao (i:=1) c_mark_alone.nd rfl (Or.inl rfl) (cN0 O hr zab)) (zad (zw3 zan (zw9 (pv 1) (pv 0) znp)) (zaf (zaq (pv 1)))),?_⟩
  refine⟨rfl,λr H' hr s1 e1=>?_⟩
  refine⟨_,rfl,_,rfl,r,_,_,i,rfl,rfl,e1,?_,_,rfl,?_⟩
  ·rw[qe9];unfold ixN;rw[if_pos (by lia),if_pos (by simp;lia)];simp
  ·refine q r _ hr (zay s1 hr _) ?_
   show upd _ _ _ _=_
   rw[zac,map_set]
theorem ztk(T:Txt K mg ad):Ok P w K mg base 2 "place_alone" ["place"] qc7:=by
 have O:=zij (P:=P) (w:=w) (base:=base) T
 obtain⟨t1,hM⟩:=T.k_MARKS
 refine T.f_place_alone.ok T.M c_place_alone (λvs H Q E h=>?_) (λf cdv A outer s H vs Q E hr h=>?_)
 ·obtain⟨i,rfl,_⟩:=h
  rfl
 ·obtain⟨i,rfl,hi,q⟩:=h
  refine⟨_,zad (zao (i:=1) c_place_alone.nd rfl (Or.inl rfl) (cN0 O hr zab)) (zad (zw3 zan (zw9 (pv 1) (za8 zb8 (zat (v:=.int 8) rfl hM ⟨_,rfl⟩) (pv 0)) znp)) (zaf (zaq (pv 1)))),?_⟩
  refine⟨rfl,λr H' hr s1 e1=>?_⟩
  refine⟨_,rfl,_,rfl,_,_,rfl,rfl,r,_,_,8+i,rfl,rfl,e1,?_,_,rfl,?_⟩
  ·rw[qe9];unfold ixN;rw[if_pos (by lia),if_pos (by simp;lia)];congr 1
  ·refine q r _ hr (zay s1 hr _) ?_
   show upd _ _ _ _=_
   rw[zac,map_set]
theorem ztj(T:Txt K mg ad):Ok P w K mg base 1 "times" ["first","second"] (sp2 λx y=>x+y):=by
 refine T.f_times.ok T.M c_times (λvs H Q E h=>?_) (λf cdv A outer s H vs Q E hr h=>?_)
 ·obtain⟨a,b,xs,ys,rfl,_⟩:=h
  rfl
 ·obtain⟨a,b,xs,ys,rfl,ha,hb,hz,q⟩:=h
  refine⟨_,zaf (zaq (zl6 (own:=[("one",2),("other",3)]) rfl c_times.nd (ztb rfl T.z_zip (zaa (pv 0) (zaa (pv 1) zae))) (zbs (by rfl))
   (λ_ _ _ _ _=>zjd K 2 3 rfl c_times.nd rfl rfl rfl rfl) (λ_ _ _ _ _=>zcp) (λ_ _ _ _ _=>za8 zb8 (pv 2) (pv 3)))),?_⟩
  refine⟨_,rfl,_,rfl,a,b,_,_,rfl,SqL.of ha,SqL.of hb,λD hD=>?_⟩
  exact zye (λx y=>x+y) 2 3 hD (SqL.of ha) (SqL.of hb) (by lia) (λ_ _=>rfl) (λx y H2 Q' _ _ h=>⟨_,rfl,_,rfl,_,_,rfl,rfl,h⟩) λH' s1 e1=>q D H' hD s1 e1
theorem zik(T:Txt K mg ad):Ok P w K mg base 1 "divided" ["first","second"] (sp2 λx y=>x - y):=by
 refine T.f_divided.ok T.M c_divided (λvs H Q E h=>?_) (λf cdv A outer s H vs Q E hr h=>?_)
 ·obtain⟨a,b,xs,ys,rfl,_⟩:=h
  rfl
 ·obtain⟨a,b,xs,ys,rfl,ha,hb,hz,q⟩:=h
  refine⟨_,zaf (zaq (zl6 (own:=[("one",2),("other",3)]) rfl c_divided.nd (ztb rfl T.z_zip (zaa (pv 0) (zaa (pv 1) zae))) (zbs (by rfl))
   (λ_ _ _ _ _=>zjd K 2 3 rfl c_divided.nd rfl rfl rfl rfl) (λ_ _ _ _ _=>zcp) (λ_ _ _ _ _=>za8 zkt (pv 2) (pv 3)))),?_⟩
  refine⟨_,rfl,_,rfl,a,b,_,_,rfl,SqL.of ha,SqL.of hb,λD hD=>?_⟩
  exact zye (λx y=>x - y) 2 3 hD (SqL.of ha) (SqL.of hb) (by lia) (λ_ _=>rfl) (λx y H2 Q' _ _ h=>⟨_,rfl,_,rfl,_,_,rfl,rfl,h⟩) λH' s1 e1=>q D H' hD s1 e1
theorem zkw(T:Txt K mg ad):Ok P w K mg base 1 "raised" ["product","power"] zz6:=by
 refine T.f_raised.ok T.M c_raised (λvs H Q E h=>?_) (λf cdv A outer s H vs Q E hr h=>?_)
 ·obtain⟨a,xs,k,rfl,_⟩:=h
  rfl
 ·obtain⟨a,xs,k,rfl,ha,hz,hk,q⟩:=h
  refine⟨_,zaf (zaq (zl6 (own:=[("exponent",2)]) rfl c_raised.nd (zby (pv 0)) (zbs (by rfl))
   (λ_ _ _ _ _=>zbg (i:=2) c_raised.nd rfl (Or.inl rfl)) (λ_ _ _ _ _=>zcp) (λ_ _ _ _ _=>za8 qcc (pv 2) (pv 1)))),?_⟩
  refine⟨_,rfl,a,rfl,⟨_,SqL.of ha⟩,λD hD=>?_⟩
  exact zn5 (λx=>x*k) 2 hD (SqL.of ha) (by lia) (λ_=>rfl) (λx H2 Q' _ _ h=>⟨_,rfl,_,rfl,_,_,rfl,rfl,.inr hk,h⟩) λH' s1 e1=>q D H' hD s1 e1
theorem zhu(T:Txt K mg ad):Ok P w K mg base 1 "marks_of" ["product"] qdb:=by
 obtain⟨t1,hM⟩:=T.k_MARKS
 refine T.f_marks_of.ok T.M zvq (λvs H Q E h=>?_) (λf cdv A outer s H vs Q E hr h=>?_)
 ·obtain⟨a,xs,rfl,_⟩:=h
  rfl
 ·obtain⟨a,xs,rfl,ha,q⟩:=h
  refine⟨_,zaf (zaq (zcx zgo (pv 0) zgq (zcu (zat (v:=.int 8) rfl hM ⟨_,rfl⟩)))),?_⟩
  refine⟨_,rfl,8,rfl,a,_,rfl,SqL.of ha,λp hp=>?_⟩
  refine q p _ hp (zaj hp _) ?_
  show upd _ _ _ _=_
  rw[zac]
  exact congrArg (λz=>some (HO.lst z)) (zp9 xs 8)
theorem zek(T:Txt K mg ad):Ok P w K mg base 1 "places_of" ["product"] zz7:=by
 obtain⟨t1,hM⟩:=T.k_MARKS
 refine T.f_places_of.ok T.M zsa (λvs H Q E h=>?_) (λf cdv A outer s H vs Q E hr h=>?_)
 ·obtain⟨a,xs,rfl,_⟩:=h
  rfl
 ·obtain⟨a,xs,rfl,ha,q⟩:=h
  refine⟨_,zaf (zaq (zcx zgo (pv 0) (zcu (zat (v:=.int 8) rfl hM ⟨_,rfl⟩)) zgq)),?_⟩
  refine⟨_,rfl,8,rfl,a,_,rfl,SqL.of ha,λp hp=>?_⟩
  refine q p _ hp (zaj hp _) ?_
  show upd _ _ _ _=_
  rw[zac]
  exact congrArg (λz=>some (HO.lst z)) (zy8 xs 8)
end
end U
namespace L2
open PySem PySem.Spec PyProof.Rows
theorem zuh{prog:Program}{w:World}{A:Around}{ns:List Int}{its:List Value}(e:Vals (ns.map V.int) its) :
  TruthOf prog w A (λi v=>its.toArray[i]?=some v) (λi=>(ns.map (· != 0)).getD i false):=λi v s Q E hv hq=>by
 have hv':its[i]?=some v:=by simpa using hv
 have hl:=e.length
 have hi:i<ns.length:=by
  have:=(qfc.mp hv').1
  rw[qe9]at hl;lia
 obtain⟨u,hu,ru⟩:=e.get (i:=i) (x:=.int ns[i]) (by rw[qfe,qf2 hi];rfl)
 rw[hv']at hu;cases hu
 obtain⟨t,rfl⟩:=ru
 have hg:(ns.map (· != 0)).getD i false=(ns[i] != 0):=by simp[hi]
 have hq':Q ((ns.map (· != 0)).getD i false) s:=hq
 rw[hg]at hq'
 exact PySem.P.truthy_int hq'
def rAnyI(K:qfa):List V->Hp->VK->Prop:=λvs H Q=>∃(a:Addr)(ns:List Int),vs=[V.ref a]/\SqL K H a (ns.map V.int)/\Q (.bl (ns.any (· != 0))) H
theorem zr8{X:Cx}(hc:X.calm=true):zmn X (.builtin "any") (rAnyI X.K):=by
 intro pins s σ H vs us Q I r h
 obtain⟨a,ns,rfl,hs,q⟩:=h
 obtain⟨its,rv,hl,_⟩:=I.list hs
 rw[Vals.ref1 r]
 have hlen:=rv.length
 refine call_any_walk (ztu hl.isList λs₂ e2 st hne=>?_)
 subst e2
 refine⟨_,_,_,_,_,_,_,rfl,Walks.list (A:=X.A.in1) (I.ok.hd hc) _ a hne its.toArray,st,zuh rv,λh' tk hk=>?_⟩
 refine⟨.bl _,H,I.kept λb o eo=>hk b o (λhmem=>?_) (Heap.get?_push_of_some _ eo),?_,q⟩
 ·rcases qfo.mp hmem with e1|hmem
  ·exact absurd (e1▸Heap.lt_size eo) (qhf _)
  ·cases hmem
 ·show Value.bool _=Value.bool _
  have e:(ns.any (· != 0))=(ns.map (· != 0)).any id:=by rw[List.any_map];rfl
  rw[e,<-zql,qfr,qe9,<-hlen,qe9]
theorem qat{X:Cx}:OpR X (binaryOp .FloorDiv) (rI (λ_ j=>j≠0/\j.natAbs<=1073741824) λi j=>.int (i.fdiv j)):=opI λ_ _ _ _ _ _ _ hc q=>floordiv_int hc.1 q (.inl (PyProof.noPylong_of_log2 (by
 have h:_:=hc.2
 have h0:_:=hc.1
 rw[Nat.log2_lt (by lia)]
 exact Nat.lt_of_le_of_lt h (qfn (by decide:1073741824<2 ^ 31) (Nat.pow_le_pow_right (by decide) (by decide))))))
end L2
namespace U
open PySem L2
def Rows(H:Hp):List Addr->List (List Int)->Prop:=Paired (λr s=>LI H r s)
def qew(xs:List Int)(ss:List (List Int)):List Int:=(qh5 ss (xs.drop 8)).foldl (λacc q=>if q.2=0 then acc else qfs (λx y=>x+y) acc (q.1.map (·*q.2))) (xs.take 8++qfk 24 0)
def qad:Sp:=λvs H Q _=>∃(a b:Addr)(xs:List Int)(rs:List Addr)(ss:List (List Int)),vs=[.ref a,.ref b]/\LI H a xs/\H b=some (.lst (rs.map V.ref))/\Rows H rs ss/\xs.length=32/\(∀s∈ss,s.length=32)/\rs.length<=24 ∧
 (∀x∈xs,-(2 ^ 64)<x/\x<2 ^ 64)/\zsg H Q (qew xs ss)
def zwm(K:qfa)(R:Addr):Sp:=λvs H Q E=>∃(a:Addr)(xs:List Int)(k:Int),vs=[.ref a,.int k]/\LI H a xs/\0<xs.length/\(inB 1073741824 xs=true->Q (.ref a) H)/\(inB 1073741824 xs=false->zaw K R E (-75) k)
def spQuot:Sp:=λvs H Q _=>∃(a:Addr)(xs:List Int)(j:Nat)(x:Int),vs=[.ref a,.int j]/\LI H a xs/\xs.length<=1000/\xs[j]?=some x/\x≠0/\x.natAbs<=1073741824/\zsg H Q ((xs.map λk=>k.fdiv x).set j 0)
def zuo:Sp:=λvs H Q _=>∃(a b:Addr)(xs ys:List Int)(j:Nat)(x:Int),vs=[.ref a,.int j,.ref b]/\LI H a xs/\LI H b ys/\xs.length<=1000/\ys.length<=1000/\xs[j]?=some x/\(-(2 ^ 64)<x/\x<2 ^ 64) ∧
 (x=0->Q (.ref a) H)/\(x≠0->zsg H Q (qfs (λu v=>u - v) xs (ys.map (·*x))))
def zwh:Sp:=λvs H Q _=>∃(a:Addr)(xs:List Int)(j:Nat),vs=[.ref a,.int j]/\LI H a xs/\xs.length<=1000/\zsg H Q (xs.take j++[0]++xs.drop (j+1))
def qab(K:qfa)(R:Addr):Sp:=λvs H Q E=>∃(a:Addr)(xs:List Int)(k:Int),vs=[.ref a,.int k]/\LI H a xs/\((xs.take 8).any (· != 0)=false->∀H',Same H H'->Q .non H')/\((xs.take 8).any (· != 0)=true->zaw K R E (-61) k)
section
variable{P:Program}{w:World}{K:qfa}{mg:Str->Option Value}{base:Heap}{ad:Ad}
theorem inB_of{b m n:Int}{xs:List Int}(h1:m∈xs)(h2:∀y∈xs,y<=m)(h3:n∈xs)(h4:∀y∈xs,n<=y):inB b xs=(decide (m<=b) && decide (n ≥ 0 - b)):=by
 rw[qgw]
 unfold inB
 simp only[qfm,qft,decide_eq_true_eq]
 constructor
 ·intro h
  have a:=(h m h1).2
  have b':=(h n h3).1
  exact⟨a,by lia⟩
 ·rintro ⟨a,b'⟩ y hy
  have c:=h2 y hy
  have d:=h4 y hy
  exact⟨by lia,by lia⟩
theorem zpm(T:Txt K mg ad):Ok P w K mg base 1 "within" ["product","bound"] zz2:=by
 refine T.f_within.ok T.M qbu (λvs H Q E h=>?_) (λf cdv A outer s H vs Q E hr h=>?_)
 ·obtain⟨a,xs,b,rfl,_⟩:=h
  rfl
 ·obtain⟨a,xs,b,rfl,ha,hz,q⟩:=h
  refine⟨_,zaf (zaq (zph (zie op_le (za0 (cr_max rfl) rfl T.z_max (by decide +kernel) (zaa (pv 0) zae)) (pv 1) (zaz _)) (zpf (zie qdz (za0 (cr_min rfl) rfl T.z_min (by decide +kernel) (zaa (pv 0) zae)) (za8 zkt zan (pv 1)) (zaz _))))),?_⟩
  refine⟨_,rfl,a,xs,rfl,SqL.of ha,hz,λm h1 h2=>⟨_,rfl,_,_,rfl,rfl,_,rfl,?_⟩⟩
  refine zb3 (λc=>?_) (λc=>?_)
  ·refine⟨_,rfl,a,xs,rfl,SqL.of ha,hz,λn h3 h4=>⟨_,rfl,_,_,rfl,rfl,_,_,rfl,rfl,?_⟩⟩
   have e:=inB_of (b:=b) h1 h2 h3 h4
   rw[c,Bool.true_and]at e
   rw[e]at q
   exact q
  ·have hx:inB b xs=false:=by
    rw[qga]
    intro z
    unfold inB at z
    have:=qfm.mp z m h1
    rw[qft]at this
    exact c this.2
   rw[hx]at q
   exact q
theorem ztl(T:Txt K mg ad):Ok P w K mg base 2 "moved" ["product","first"] qda:=by
 have O1:=zhu (P:=P) (w:=w) (base:=base) T
 have O2:=zek (P:=P) (w:=w) (base:=base) T
 obtain⟨t2,hP⟩:=T.k_PLACES
 refine T.f_moved.ok T.M qez (λvs H Q E h=>?_) (λf cdv A outer s H vs Q E hr h=>?_)
 ·obtain⟨a,xs,k,rfl,_⟩:=h
  rfl
 ·obtain⟨a,xs,k,rfl,ha,hk,hz,q⟩:=h
  refine⟨_,zaf (zaq (za8 zdr (za8 zdr (cN O1 hr zab (zaa (pv 0) zae)) (za8 ztg (zbm (zaa zan zae)) (pv 1)))
   (zcx zgo (cN O2 hr zab (zaa (pv 0) zae)) zgq (zcu (za8 zkt (zat (v:=.int 24) rfl hP ⟨_,rfl⟩) (pv 1)))))),?_⟩
  refine⟨_,rfl,a,xs,rfl,ha,λr1 H1 n1 s1 e1=>?_⟩
  refine⟨(by show 1<=sizeLine;decide),λl hl=>?_⟩
  have s2:Same H1 (upd H1 l (.lst [.int 0])):=zaj hl _
  refine⟨_,rfl,l,_,_,rfl,rfl,zac,(by lia),(by lia),(by show 1*(k:Int).toNat<=sizeLine;exact big (by lia)),λr2 n2=>?_⟩
  have s3:=zaj (o:=HO.lst (qfk ((k:Int).toNat) [V.int 0]).flatten) n2
  refine⟨r1,r2,_,_,rfl,rfl,s3 _ _ (s2 _ _ e1),zac,?_,λr3 n3=>?_⟩
  ·rw[zn4,qe9,qfx];exact big (by simp;lia)
  have s4:=zaj (o:=HO.lst ((xs.take 8).map V.int++(qfk ((k:Int).toNat) [V.int 0]).flatten)) n3
  have S:=(s1.trans s2).trans (s3.trans s4)
  refine⟨_,rfl,a,xs,rfl,S _ _ ha,λr4 H4 n4 s5 e4=>?_⟩
  refine⟨_,rfl,_,_,rfl,rfl,(24:Int) - k,rfl,r4,_,rfl,SqL.of e4,λr5 n5=>?_⟩
  have s6:=zaj (o:=HO.lst (zqa ((xs.drop 8).map V.int) none (some ((24:Int) - k)))) n5
  have hc:zqa ((xs.drop 8).map V.int) none (some ((24:Int) - k))=((xs.drop 8).take (24 - k)).map V.int:=by
   have:((24:Int) - k)=((24 - k:Nat):Int):=by lia
   rw[this];exact zp9 _ _
  refine⟨r3,r5,_,_,rfl,rfl,s6 _ _ (s5 _ _ zac),zac,?_,λr6 n6=>?_⟩
  ·rw[hc,qfb,zn4,qe9,qe9,qfx,qfx,qgj];exact big (by simp;lia)
  have S6:=(S.trans s5).trans s6
  refine q r6 _ (S6.free n6) (S6.trans (zaj n6 _)) ?_
  show upd _ _ _ _=_
  rw[zac,hc]
  have:(k:Int).toNat=k:=by simp
  rw[this,zhp,<-qfg,<-qfg]
theorem zu2(T:Txt K mg ad):Ok P w K mg base 4 "bounded" ["product","at"] (zwm K ad.R):=by
 have O1:=zpm (P:=P) (w:=w) (base:=base) T
 have X1:=zrg (P:=P) (w:=w) (base:=base) T
 obtain⟨t2,hL⟩:=T.k_LARGEST
 refine T.f_bounded.ok T.M zze (λvs H Q E h=>?_) (λf cdv A outer s H vs Q E hr h=>?_)
 ·obtain⟨a,xs,k,rfl,_⟩:=h
  rfl
 ·obtain⟨a,xs,k,rfl,ha,hz,q1,q2⟩:=h
  refine⟨_,zad (za9 (zm0 (zcf (cN O1 (hr.mono (by decide)) zab (zaa (pv 0) (zaa (zat (v:=.int 1073741824) rfl hL ⟨_,rfl⟩) zae))))) (zaf (znr X1 hr zab (pv 1))) zav) (zaf (zaq (pv 0))),?_⟩
  refine⟨_,rfl,a,xs,1073741824,rfl,ha,hz,_,rfl,?_⟩
  cases e:inB 1073741824 xs with
  |true=>exact⟨_,rfl,q1 e⟩
  |false=>exact⟨_,rfl,k,rfl,q2 e⟩
end
theorem Rows.get{H:Hp}:∀{rs:List Addr}{ss:List (List Int)}{i:Nat}{r:Addr},Rows H rs ss->rs[i]?=some r->∃s,ss[i]?=some s/\LI H r s
 |_,_,_,_,.nil,h=>by simp at h
 |_,_,0,_,.cons a t,h=>by simp at h;subst h;exact⟨_,rfl,a⟩
 |_,_,i+1,r,.cons a t,h=>by
  obtain⟨s,h1,h2⟩:=Rows.get (i:=i) (r:=r) t (by simpa using h)
  exact⟨s,by simpa using h1,h2⟩
theorem Rows.len{H:Hp}{rs:List Addr}{ss:List (List Int)}(h:Rows H rs ss):rs.length=ss.length:=Paired.length h
theorem Rows.same{H H':Hp}(s:Same H H'){rs:List Addr}{ss:List (List Int)}(h:Rows H rs ss):Rows H' rs ss:=Paired.mapP h λa b q=>s _ _ q
abbrev zmc(acc:List Int)(q:List Int×Int):List Int:=if q.2=0 then acc else qfs (λx y=>x+y) acc (q.1.map (·*q.2))
theorem zp6{acc:List Int}{q:List Int×Int}(h:acc.length=32)(hq:q.1.length=32):(zmc acc q).length=32:=by
 unfold zmc;split
 ·exact h
 ·simp[h,hq]
theorem ne0{e:Int}:(!decide (V.int e=V.int 0))=!decide (e=0):=by
 congr 1
 rw[decide_eq_decide]
 exact⟨λh=>by cases h;rfl,λh=>by rw[h]⟩
section
variable{P:Program}{w:World}{K:qfa}{mg:Str->Option Value}{base:Heap}{ad:Ad}
theorem zxs(T:Txt K mg ad):Ok P w K mg base 2 "filled_in" ["product","filling"] qad:=by
 have O1:=zhu (P:=P) (w:=w) (base:=base) T
 have O2:=zek (P:=P) (w:=w) (base:=base) T
 have O3:=ztj (P:=P) (w:=w) (base:=base) T
 have O4:=zkw (P:=P) (w:=w) (base:=base) T
 obtain⟨t2,hP⟩:=T.k_PLACES
 refine T.f_filled_in.ok T.M c_filled_in (λvs H Q E h=>?_) (λf cdv A outer s H vs Q E hr h=>?_)
 ·obtain⟨a,b,xs,rs,ss,rfl,_⟩:=h
  rfl
 ·obtain⟨a,b,xs,rs,ss,rfl,ha,hb,hR,hz,hs,h24,hx,q⟩:=h
  refine⟨_,zad (zao (i:=2) c_filled_in.nd rfl (Or.inl rfl) (za8 zdr (cN O1 hr zab (zaa (pv 0) zae)) (za8 ztg (zbm (zaa zan zae)) (zat (v:=.int 24) rfl hP ⟨_,rfl⟩))))
   (zad (zei zbk rfl (ztb rfl T.z_zip (zaa (pv 1) (zaa (cN O2 hr zab (zaa (pv 0) zae)) zae))) (zjd K 3 4 rfl c_filled_in.nd rfl rfl rfl rfl)
    (zaf (za9 (zar zpk (pv 4) zan (zaz _)) (zaf (zao (i:=2) c_filled_in.nd rfl (Or.inl rfl) (cN O3 hr zab (zaa (pv 2) (zaa (cN O4 hr zab (zaa (pv 3) (zaa (pv 4) zae))) zae))))) zav)))
   (zaf (zaq (pv 2)))),?_⟩
  refine⟨_,rfl,a,xs,rfl,ha,λr1 H1 n1 s1 e1=>?_⟩
  refine⟨(by show 1<=sizeLine;decide),λl hl=>?_⟩
  have s2:Same H1 (upd H1 l (.lst [.int 0])):=zaj hl _
  refine⟨l,_,_,rfl,rfl,zac,(by decide),(by decide),(by show 1*24<=sizeLine;decide),λr2 n2=>?_⟩
  have s3:=zaj (o:=HO.lst (qfk ((24:Int).toNat) [V.int 0]).flatten) n2
  refine⟨r1,r2,_,_,rfl,rfl,s3 _ _ (s2 _ _ e1),zac,?_,λr3 n3=>?_⟩
  ·rw[zn4,qe9,qfx];exact big (by simp;lia)
  have s4:=zaj (o:=HO.lst ((xs.take 8).map V.int++(qfk ((24:Int).toNat) [V.int 0]).flatten)) n3
  have S:=(s1.trans s2).trans (s3.trans s4)
  have n3':H r3=none:=(s1.trans (s2.trans s3)).free n3
  refine⟨_,rfl,_,rfl,a,xs,rfl,S _ _ ha,λr4 H4 n4 s5 e4=>?_⟩
  have S4:=S.trans s5
  refine⟨b,r4,_,_,rfl,SqL.of (S4 _ _ hb),SqL.of e4,zyr (xs:=rs.map V.ref) (ys:=(xs.drop 8).map V.int) (λi σ H'=>∃(r:Addr)(acc:List Int)(v3 v4:Option V),σ=[some (.ref a),some (.ref b),some (.ref r),v3,v4]/\Same H4 H'/\H r=none ∧
   acc=((qh5 ss (xs.drop 8)).take i).foldl zmc (xs.take 8++qfk 24 0)/\acc.length=32/\LI H' r acc) ?_ ?_ ?_ ?_⟩
  ·refine⟨r3,_,none,none,rfl,Same.refl _,n3',rfl,by simp[hz],?_⟩
   refine s5 _ _ ?_
   rw[zac,qkc,List.foldl_nil,qfg]
   exact congrArg (λz=>some (HO.lst (_++z))) (zhp 24)
  ·rintro i σ H' _ ⟨r,acc,v3,v4,_,s6,_⟩
   exact⟨SqL.of (s6 _ _ (S4 _ _ hb)),SqL.of (s6 _ _ e4)⟩
  ·rintro i x y T' σ H' hx1 hy1 nT ⟨r,acc,v3,v4,rfl,s6,nr,eacc,lacc,er⟩
   rw[qfe]at hx1 hy1
   obtain⟨g,hg,rfl⟩:=qff.mp hx1
   obtain⟨e,he,rfl⟩:=qff.mp hy1
   have sT:=zaj (o:=HO.tup [V.ref g,V.int e]) nT
   obtain⟨sg,hsg,eg⟩:=(hR.same (S4.trans s6)).get hg
   have step:((qh5 ss (xs.drop 8)).take (i+1)).foldl zmc (xs.take 8++qfk 24 0)=zmc acc (sg,e):=by
    have hzz:(qh5 ss (xs.drop 8))[i]?=some (sg,e):=by
     rw[qid];exact⟨hsg,he⟩
    rw[qgi (l:=qh5 ss (xs.drop 8)) (i:=i),hzz,qgz,qh6,<-eacc];rfl
   have lsg:sg.length=32:=hs sg (qfw hsg)
   refine⟨T',_,rfl,.inl (.inl zac),rfl,_,_,rfl,_,_,rfl,rfl,?_⟩
   refine⟨_,rfl,rfl,_,rfl,?_⟩
   rw[ne0]
   by_cases h0:e=0
   ·rw[decide_eq_true h0]
    refine⟨r,_,_,_,rfl,s6.trans sT,nr,rfl,?_,?_⟩
    ·rw[step];exact zp6 lacc lsg
    ·rw[step];unfold zmc;rw[if_pos h0];exact sT _ _ er
   ·rw[decide_eq_false h0]
    refine⟨_,rfl,_,rfl,_,rfl,g,sg,e,rfl,sT _ _ eg,by lia,hx e (qfv (qfw he)),λr5 H5 n5 s7 e5=>?_⟩
    refine⟨r,r5,acc,_,rfl,s7 _ _ (sT _ _ er),e5,by lia,λr6 H6 n6 s8 e6=>?_⟩
    have S8:=(s6.trans sT).trans (s7.trans s8)
    refine⟨r6,_,_,_,rfl,S8,(S4.trans ((s6.trans sT).trans s7)).free n6,rfl,?_,?_⟩
    ·rw[step];exact zp6 lacc lsg
    ·rw[step];unfold zmc;rw[if_neg h0];exact e6
  ·rintro σ H' ⟨r,acc,v3,v4,rfl,s6,nr,eacc,lacc,er⟩
   refine⟨_,rfl,q r H' nr (S4.trans s6) ?_⟩
   have hf:(qh5 ss (xs.drop 8)).take (min (rs.map V.ref).length ((xs.drop 8).map V.int).length)=qh5 ss (xs.drop 8):=by
    rw[qf4]
    rw[List.length_zip,qe9,qe9,hR.len];exact qfh _
   rw[hf]at eacc
   rw[eacc]at er
   exact er
theorem qd3(T:Txt K mg ad):Ok P w K mg base 1 "quotients" ["rest","index"] spQuot:=by
 refine T.f_quotients.ok T.M c_quotients (λvs H Q E h=>?_) (λf cdv A outer s H vs Q E hr h=>?_)
 ·obtain⟨a,xs,j,x,rfl,_⟩:=h
  rfl
 ·obtain⟨a,xs,j,x,rfl,ha,hz,hj,x0,x1,q⟩:=h
  have jl:j<xs.length:=(qfc.mp hj).1
  refine⟨_,zad (znq (i:=2) (own:=[("exponent",3)]) rfl c_quotients.nd rfl rfl (by rfl) (zby (pv 0)) (zbs (by rfl))
   (λ_ _ _ _ _=>zbg (i:=3) c_quotients.nd rfl (Or.inl rfl)) (λ_ _ _ _ _=>zcp) (λ_ _ _ _ _=>za8 qat (pv 3) (zdp (r:=rIxL K) zew (pv 0) (pv 1) (λ_ _=>rfl))))
   (zad (zw3 zan (zw9 (pv 2) (pv 1) znp)) (zaf (zaq (pv 2)))),?_⟩
  refine⟨_,rfl,a,rfl,⟨_,SqL.of ha⟩,λD hD=>?_⟩
  refine zn5 (λk=>k.fdiv x) 3 hD (SqL.of ha) (by lia) (λ_=>rfl) (λz H2 Q' _ s1 h=>⟨_,rfl,_,rfl,_,rfl,a,_,_,_,rfl,rfl,s1.seq (SqL.of ha),zez (by rw[qfe,hj];rfl),_,_,rfl,rfl,⟨x0,x1⟩,h⟩) λH' s1 e1=>?_
  refine⟨_,rfl,_,rfl,D,_,_,j,rfl,rfl,e1,?_,_,rfl,?_⟩
  ·rw[qe9,qe9];unfold ixN;rw[if_pos (by lia),if_pos (by lia)];simp
  ·refine q D _ hD (zay s1 hD _) ?_
   show upd _ _ _ _=_
   rw[zac,map_set]
theorem zrf(T:Txt K mg ad):Ok P w K mg base 2 "narrowed" ["product","index","taken"] zuo:=by
 have O3:=zik (P:=P) (w:=w) (base:=base) T
 have O4:=zkw (P:=P) (w:=w) (base:=base) T
 refine T.f_narrowed.ok T.M zvp (λvs H Q E h=>?_) (λf cdv A outer s H vs Q E hr h=>?_)
 ·obtain⟨a,b,xs,ys,j,x,rfl,_⟩:=h
  rfl
 ·obtain⟨a,b,xs,ys,j,x,rfl,ha,hb,hz,hy,hj,hx,q1,q2⟩:=h
  refine⟨_,zad (za9 (zar zej (zdp zew (pv 0) (pv 1) (λ_ _=>rfl)) zan (zaz _)) (zaf (zaq (pv 0))) zav)
   (zaf (zaq (cN O3 hr zab (zaa (pv 0) (zaa (cN O4 hr zab (zaa (pv 2) (zaa (zdp zew (pv 0) (pv 1) (λ_ _=>rfl)) zae))) zae))))),?_⟩
  have hat:atI (xs.map V.int) (j:Int)=some (.int x):=zez (by rw[qfe,hj];rfl)
  refine⟨_,rfl,_,rfl,a,_,_,_,rfl,rfl,SqL.of ha,hat,rfl,_,rfl,?_⟩
  by_cases h0:x=0
  ·subst h0
   exact⟨_,rfl,q1 rfl⟩
  ·rw[show decide (V.int x=V.int 0)=false from decide_eq_false λz=>h0 (by cases z;rfl)]
   refine⟨_,rfl,_,rfl,_,rfl,_,rfl,a,_,_,_,rfl,rfl,SqL.of ha,hat,b,ys,x,rfl,hb,hy,hx,λr1 H1 n1 s1 e1=>?_⟩
   refine⟨a,r1,xs,_,rfl,s1 _ _ ha,e1,hz,λr2 H2 n2 s2 e2=>?_⟩
   exact q2 h0 r2 H2 (s1.free n2) (s1.trans s2) e2
theorem zuy(T:Txt K mg ad):Ok P w K mg base 1 "without" ["product","index"] zwh:=by
 refine T.f_without.ok T.M zzc (λvs H Q E h=>?_) (λf cdv A outer s H vs Q E hr h=>?_)
 ·obtain⟨a,xs,j,rfl,_⟩:=h
  rfl
 ·obtain⟨a,xs,j,rfl,ha,hz,q⟩:=h
  refine⟨_,zaf (zaq (za8 zdr (za8 zdr (zcx zgo (pv 0) zgq (zcu (pv 1))) (zbm (zaa zan zae))) (zcx zgo (pv 0) (zcu (za8 zb8 (pv 1) zan)) zgq))),?_⟩
  refine⟨_,rfl,_,rfl,_,rfl,a,_,rfl,SqL.of ha,λr1 n1=>?_⟩
  have s1:=zaj (o:=HO.lst (zqa (xs.map V.int) none (some (j:Int)))) n1
  refine⟨(by show 1<=sizeLine;decide),λl hl=>?_⟩
  have s2:=zaj (o:=HO.lst [V.int 0]) hl
  refine⟨r1,l,_,_,rfl,rfl,s2 _ _ zac,zac,?_,λr2 n2=>?_⟩
  ·rw[zp9,qe9,qfx];exact big (by simp;lia)
  have s3:=zaj (o:=HO.lst (zqa (xs.map V.int) none (some (j:Int))++[V.int 0])) n2
  have S:=(s1.trans s2).trans s3
  have ej:((j:Int)+1)=((j+1:Nat):Int):=by lia
  refine⟨_,rfl,_,rfl,_,_,rfl,rfl,_,rfl,a,_,rfl,SqL.of (S _ _ ha),λr3 n3=>?_⟩
  have s4:=zaj (o:=HO.lst (zqa (xs.map V.int) (some ((j:Int)+1)) none)) n3
  refine⟨r2,r3,_,_,rfl,rfl,s4 _ _ zac,zac,?_,λr4 n4=>?_⟩
  ·rw[zp9,ej,zy8,qfb,qe9,qe9,qfx,qgj];exact big (by simp;lia)
  refine q r4 _ ((S.trans s4).free n4) ((S.trans s4).trans (zaj n4 _)) ?_
  show upd _ _ _ _=_
  rw[zac,zp9,ej,zy8,qfg,qfg]
  rfl
theorem zxp(T:Txt K mg ad):Ok P w K mg base 4 "check_no_mark" ["rest","at"] (qab K ad.R):=by
 have O1:=zhu (P:=P) (w:=w) (base:=base) T
 have X1:=zrh (P:=P) (w:=w) (base:=base) T
 refine T.f_check_no_mark.ok T.M zlk (λvs H Q E h=>?_) (λf cdv A outer s H vs Q E hr h=>?_)
 ·obtain⟨a,xs,k,rfl,_⟩:=h
  rfl
 ·obtain⟨a,xs,k,rfl,ha,q1,q2⟩:=h
  refine⟨_,zaf (za9 (zcf (za0 (zr8 rfl) rfl T.z_any (by decide +kernel) (zaa (cN O1 (hr.mono (by decide)) zab (zaa (pv 0) zae)) zae))) (zaf (znr X1 hr zab (pv 1))) zav),?_⟩
  refine⟨_,rfl,a,xs,rfl,ha,λr1 H1 n1 s1 e1=>?_⟩
  refine⟨r1,_,rfl,SqL.of e1,_,rfl,?_⟩
  cases e:(xs.take 8).any (· != 0) with
  |true=>exact⟨_,rfl,k,rfl,q2 e⟩
  |false=>exact q1 e H1 s1
end
abbrev TOk(ad:Ad)(H:Hp):Prop:=TabOk ad.pNP lpNP qNP H
def spNear(ad:Ad):Sp:=λvs H Q _=>∃(a:Addr)(xs:List Int)(p:Nat)(z:Int),vs=[.ref a]/\LI H a xs/\xs.length=32/\Kp168.nearest (xs.drop 8)=some (p,z)/\TOk ad H/\∀H',SameT H H'->TOk ad H'->Q (.int ((8+p:Nat):Int)) H'
def idx(xs:List Int)(k:Nat):List Int:=((qgh k).filter λj=>xs.getD (8+j) 0 != 0).map λ(j:Nat)=>(8:Int)+(j:Int)
theorem qbl(xs:List Int)(k:Nat):idx xs (k+1)=if xs.getD (8+k) 0=0 then idx xs k else idx xs k++[(8:Int)+(k:Int)]:=by
 unfold idx
 rw[qiu,qjg,qfg]
 by_cases h:xs.getD (8+k) 0=0
 ·have e:((List.filter (λj=>xs.getD (8+j) 0 != 0) [k]))=[]:=by
   rw[List.filter_cons_of_neg (by rw[h];decide)];rfl
  rw[if_pos h,e,qio,qgb]
 ·have e:((List.filter (λj=>xs.getD (8+j) 0 != 0) [k]))=[k]:=by
   rw[List.filter_cons_of_pos (by rw[bne_iff_ne];exact h)];rfl
  rw[if_neg h,e];rfl
theorem qer(xs:List Int)(k:Nat):(idx xs k).length<=k:=by
 unfold idx;rw[qe9]
 exact qgn (qkb _ _) (by simp)
theorem idx_mem{xs:List Int}{k:Nat}{n:Int}:n∈idx xs k↔∃j:Nat,j<k/\xs.getD (8+j) 0≠0/\n=8+j:=by
 unfold idx
 simp only[qf0,qg9,qhl,bne_iff_ne]
 constructor
 ·rintro ⟨j,⟨h1,h2⟩,rfl⟩;exact⟨j,h1,h2,rfl⟩
 ·rintro ⟨j,h1,h2,rfl⟩;exact⟨j,⟨h1,h2⟩,rfl⟩
theorem zve(xs:List Int)(k:Nat):(idx xs k).Pairwise (·<·):=by
 unfold idx
 rw[List.pairwise_map]
 refine List.Pairwise.filter _ (List.Pairwise.imp ?_ List.pairwise_lt_range)
 intro a b h;lia
theorem qcg(xs:List Int)(j:Nat):zg2 xs (8+(j:Int))=(((xs.drop 8).getD j 0).natAbs:Int):=by
 unfold zg2
 have e1:((8:Int)+(j:Int)).toNat=8+j:=by lia
 have e2:(xs.drop 8).getD j 0=xs.getD (8+j) 0:=by simp[qhj]
 rw[e1,e2]
 dsimp only
 split <;> lia
theorem zrp{xs:List Int}{p:Nat}{z:Int}(hz:xs.length=32)(h:Kp168.nearest (xs.drop 8)=some (p,z)){i:Nat}{n:Int}(hi:(idx xs 24)[i]?=some n)(hb:∀j m,(idx xs 24)[j]?=some m->zg2 xs n<=zg2 xs m/\(j<i->zg2 xs n<zg2 xs m)):n=((8+p:Nat):Int):=by
 have hN:=Mir.nearest_some.mp h
 have hl:(xs.drop 8).length=24:=by simp[hz]
 rw[hl]at hN
 obtain⟨h1,h2,h3,h4⟩:=hN
 obtain⟨q,hq1,hq2,hq3⟩:=idx_mem.mp (qfw hi)
 have g:∀j,(xs.drop 8).getD j 0=xs.getD (8+j) 0:=λj=>by simp[qhj]
 have hp:(8+(p:Int))∈idx xs 24:=idx_mem.mpr ⟨p,h1,by rw[<-g,h2];exact h3,rfl⟩
 obtain⟨j,hj⟩:=List.getElem?_of_mem hp
 obtain⟨b1,b2⟩:=hb j _ hj
 subst hq3
 rw[qcg,qcg,h2]at b1 b2
 obtain⟨c1,c2⟩:=h4 q hq1 (by rw[g];exact hq2)
 by_cases e:q=p
 ·subst e;lia
 ·exfalso
  have hlt:p<q:=by
   by_cases l:q<p
   ·have:=c2 l;lia
   ·lia
  have hs:=zve xs 24
  have hji:j<i:=by
   by_cases l:j<i
   ·exact l
   ·exfalso
    obtain⟨hi1,hi2⟩:=qfc.mp hi
    obtain⟨hj1,hj2⟩:=qfc.mp hj
    by_cases l2:i=j
    ·subst l2;rw[hi2]at hj2;lia
    ·have:=List.pairwise_iff_getElem.mp hs i j hi1 hj1 (by lia)
     rw[hi2,hj2]at this
     lia
  have:=b2 hji
  lia
section
variable{P:Program}{w:World}{K:qfa}{mg:Str->Option Value}{base:Heap}{ad:Ad}
theorem qd7(T:Txt K mg ad)(hK:K.In base)(hB:base.BuiltinsAt mg ad.pNP):Ok P w K mg base 1 "nearest_place" ["rest"] (spNear ad):=by
 obtain⟨t1,hM⟩:=T.k_MARKS
 have C:PySem.W.CodeHd base ad.cNP ad.pNP:=by
  obtain⟨_,_,_,_,_,_,_,_,_,_,_,_,_,_,c⟩:=T.c_np
  exact c base hK
 refine T.c_np.ok T.M c_nearest_place (λvs H Q E h=>?_) (λf A outer s H vs Q E hr h=>?_)
 ·obtain⟨a,xs,p,z,rfl,_⟩:=h
  rfl
 ·obtain⟨a,xs,p,z,rfl,ha,hz,hn,ht,q⟩:=h
  refine⟨_,zad (znq (i:=1) (own:=[("index",2)]) rfl c_nearest_place.nd rfl rfl (by rfl) (zw7 rfl T.z_range (zaa (zat (v:=.int 8) rfl hM ⟨_,rfl⟩) (zaa (za0 za3 rfl T.z_len (by decide +kernel) (zaa (pv 0) zae)) zae))) (zbs (by rfl))
   (λ_ _ _ _ _=>zbg (i:=2) c_nearest_place.nd rfl (Or.inl rfl)) (λ_ _ _ _ _=>qdq (zar zpk (zdp (r:=rIxL K) zew (pv 0) (pv 2) (λ_ _=>rfl)) zan (zaz _))) (λ_ _ _ _ _=>pv 2))
   (zaf (zaq (zxa (c:=ad.cNP) (P:=ad.pNP) (qual:=qNP) rfl C hB hr rfl T.z_min T.z_abs rfl rfl rfl rfl rfl))),?_⟩
  refine⟨_,rfl,a,_,rfl,.inl (SqL.of ha),8,_,rfl,?_,λD hD=>?_⟩
  ·rw[qe9,hz];decide
  have e24:((((xs.map V.int).length:Nat):Int) - 8).toNat=24:=by rw[qe9,hz];rfl
  rw[e24]
  refine ztt (λk H'=>Same H H'/\H' D=some (.lst ((idx xs k).map V.int))) ⟨zaj hD _,by rw[zac];rfl⟩ (λk H' hk ⟨s1,e1⟩=>?_) λH' ⟨s1,e1⟩=>?_
  ·have hk2:8+k<xs.length:=by lia
   refine⟨rfl,_,rfl,_,rfl,a,_,_,_,rfl,rfl,SqL.of (s1 _ _ ha),at_of (j:=8+k) (v:=.int (xs.getD (8+k) 0)) (by lia) (by rw[qfe,qf2 hk2];simp[hk2]),rfl,_,rfl,?_⟩
   rw[ne0,qbl]
   by_cases h0:xs.getD (8+k) 0=0
   ·rw[decide_eq_true h0,if_pos h0]
    exact⟨s1,e1⟩
   ·rw[decide_eq_false h0,if_neg h0]
    refine⟨_,rfl,_,e1,?_,zay s1 hD _,?_⟩
    ·rw[qe9];have:=qer xs k;exact zhc (by lia)
    ·rw[zac,qfg];rfl
  ·have hN:=Mir.nearest_some.mp hn
   have hl:(xs.drop 8).length=24:=by simp[hz]
   rw[hl]at hN
   have hp:(8+(p:Int))∈idx xs 24:=idx_mem.mpr ⟨p,hN.1,by have g:(xs.drop 8).getD p 0=xs.getD (8+p) 0:=by simp[qhj]
                                                         rw[<-g,hN.2.1];exact hN.2.2.1,rfl⟩
   refine⟨a,D,xs,idx xs 24,rfl,rfl,s1 _ _ ha,e1,List.length_pos_of_mem hp,λn hn=>?_,ht.same s1,λi n H2 hi hb s2 t2=>?_⟩
   ·obtain⟨j,h1,_,rfl⟩:=idx_mem.mp hn
    lia
   ·have e:=zrp hz hn hi hb
    have g:=q H2 (s1.t.trans s2) t2
    show Q (.int n) H2
    rw[e]
    exact g
end
end U
namespace L2
open PySem
theorem th0{X:Cx}:zcb X (λ_ _ _=>False):=λ_ _ _ _ _ _ _ _ _ _ _ _ h=>h.elim
theorem Ok.imp{P:Program}{w:World}{K:qfa}{mg:Str->Option Value}{base:Heap}{k:Nat}{x:Str}{ps:List Str}{sp sp':Sp}(O:Ok P w K mg base k x ps sp)(h:∀vs H Q E,sp' vs H Q E->sp vs H Q E):Ok P w K mg base k x ps sp':=by
 obtain⟨f,fd,h1,h2,h3,F⟩:=O
 exact⟨f,fd,h1,h2,h3,F.imp h⟩
end L2
namespace U
open PySem L2 Mir
open Kp168 (Row nought ofPlace ofMark mul pow Filling itself filled nearest)
abbrev zb5(H:Hp)(p:Addr)(r:Row):Prop:=LI H p (za6 r)
theorem zhi(r:Row):inB 1073741824 (za6 r)=Kp168.small r:=by
 have hM:Kp168.MOST=1073741824:=by decide
 unfold inB Kp168.small za6
 rw[hM]
theorem zsx(r:Row):inB 1048576 (za6 r)=zzr r:=by
 have hM:Kp168.IN=1048576:=by decide
 unfold inB zzr
 rw[hM]
theorem zh5(l:List Int):l.any (· != 0)=!Kp168.empty l:=by
 unfold Kp168.empty
 rw[List.any_eq_not_all_not]
 have e:(λx:Int=>!(x != 0))=λx=>x == 0:=by funext x;simp[bne]
 rw[e]
theorem zyw{s:List Row}{e:Row}(he:WF e)(hs:∀x∈s,WF x):qew (za6 e) (s.map za6)=za6 (filled s e):=by
 rw[<-zp5 he hs]
 unfold qew zyx
 rw[zb9 he,zc4 he]
 have zib:e.mark++qfk 24 (0:Int)=za6 { nought with mark:=e.mark }:=rfl
 rw[zib]
 have gen:∀(s:List Row)(l:List Int)(acc:Row),WF acc->(∀x∈s,WF x)->(qh5 (s.map za6) l).foldl zmc (za6 acc)=za6 ((qh5 s l).foldl zcz acc):=by
  intro s
  induction s with
  |nil=>intro l acc _ _;simp
  |cons y s ih=>
   intro l acc ha hs
   cases l with
   |nil=>simp
   |cons k l=>
    have hy:=hs y qgu
    rw[qge,qip,qip,qg5,qg5]
    have e1:zmc (za6 acc) (za6 y,k)=za6 (zcz acc (y,k)):=by
     unfold zmc zcz
     dsimp only
     split
     ·rfl
     ·rw[zn8,zn9 ha (zbw k hy)]
    rw[e1]
    exact ih l _ (zj5 ha hy) λx hx=>hs x (qf8 _ hx)
 exact gen s e.place _ (zfy he) hs
theorem zyu{r:Row}{p:Nat}(h:WF r)(hp:p<24):(za6 r)[8+p]?=some (pl r p):=by
 unfold za6 pl
 rw[qhb (by rw[h.m];lia),h.m]
 have:p<r.place.length:=by rw[h.p];exact hp
 rw[show 8+p - 8=p by lia,qf2 this]
 simp[this]
theorem zrq{y q:Row}{p:Nat}(hy:WF y)(hq:WF q)(h0:pl y p≠0):qfs (λu v=>u - v) (za6 y) ((za6 q).map (·*pl y p))=za6 (zbc y p q):=by
 unfold zbc
 rw[if_neg h0,zn8,zoa hy (zbw _ hq)]
theorem pl_b{r:Row}(h:Kp168.small r=true)(hr:WF r)(p:Nat):-(2 ^ 64)<pl r p/\pl r p<2 ^ 64:=by
 have:=znm h hr p
 have e:(2:Nat) ^ 30=1073741824:=by decide
 rw[e]at this
 have e2:(2:Int) ^ 64=18446744073709551616:=by decide
 rw[e2]
 lia
theorem mem_b{b:Int}(hb:b<=1073741824){xs:List Int}(h:inB b xs=true):∀x∈xs,-(2 ^ 64)<x/\x<2 ^ 64:=λx hx=>by
 have:=qfm.mp h x hx
 simp only[qft,decide_eq_true_eq]at this
 have e2:(2:Int) ^ 64=18446744073709551616:=by decide
 rw[e2]
 lia
def spFilR:Sp:=λvs H Q _=>∃(a b:Addr)(e:Row)(rs:List Addr)(s:List Row),vs=[.ref a,.ref b]/\zb5 H a e/\H b=some (.lst (rs.map V.ref))/\Rows H rs (s.map za6)/\WF e/\(∀x∈s,WF x)/\s.length<=24/\Kp168.small e=true ∧
 ∀r H',H r=none->Same H H'->zb5 H' r (filled s e)->Q (.ref r) H'
def spBndR(K:qfa)(R:Addr):Sp:=λvs H Q E=>∃(a:Addr)(r:Row)(k:Int),vs=[.ref a,.int k]/\zb5 H a r/\WF r/\(Kp168.small r=true->Q (.ref a) H)/\(Kp168.small r=false->zaw K R E (-75) k)
def spQuoR:Sp:=λvs H Q _=>∃(a:Addr)(r:Row)(p:Nat),vs=[.ref a,.int ((8+p:Nat):Int)]/\zb5 H a r/\WF r/\p<24/\Kp168.small r=true/\pl r p≠0/\∀b H',Same H H'->zb5 H' b (ze9 r p (pl r p))->Q (.ref b) H'
def spNarR:Sp:=λvs H Q _=>∃(a b:Addr)(y q:Row)(p:Nat),vs=[.ref a,.int ((8+p:Nat):Int),.ref b]/\zb5 H a y/\zb5 H b q/\WF y/\WF q/\p<24/\Kp168.small y=true/\∀c H',Same H H'->zb5 H' c (zbc y p q)->Q (.ref c) H'
def spWitR:Sp:=λvs H Q _=>∃(a:Addr)(r:Row)(p:Nat),vs=[.ref a,.int ((8+p:Nat):Int)]/\zb5 H a r/\WF r/\p<24/\∀b H',Same H H'->zb5 H' b (drop1 r p)->Q (.ref b) H'
def spNoMR(K:qfa)(R:Addr):Sp:=λvs H Q E=>∃(a:Addr)(r:Row)(k:Int),vs=[.ref a,.int k]/\zb5 H a r/\WF r/\(Kp168.empty r.mark=true->∀H',Same H H'->Q .non H')/\(Kp168.empty r.mark=false->zaw K R E (-61) k)
def spNeaR(ad:Ad):Sp:=λvs H Q _=>∃(a:Addr)(r:Row)(p:Nat)(z:Int),vs=[.ref a]/\zb5 H a r/\WF r/\nearest r.place=some (p,z)/\TOk ad H/\∀H',SameT H H'->TOk ad H'->Q (.int ((8+p:Nat):Int)) H'
section
variable{P:Program}{w:World}{K:qfa}{mg:Str->Option Value}{base:Heap}{ad:Ad}
theorem zxt(T:Txt K mg ad):Ok P w K mg base 2 "filled_in" ["product","filling"] spFilR:=(zxs T).imp λvs H Q E ⟨a,b,e,rs,s,h1,h2,h3,h4,h5,h6,h7,h8,q⟩=>
 ⟨a,b,za6 e,rs,s.map za6,h1,h2,h3,h4,zbf h5,λz hz=>by obtain⟨x,hx,rfl⟩:=qf0.mp hz;exact zbf (h6 x hx),by rw[Rows.len h4,qe9];exact h7,mem_b (Int.le_refl _) (by rw[zhi];exact h8),by rw[zyw h5 h6];exact q⟩
theorem znx(T:Txt K mg ad):Ok P w K mg base 4 "bounded" ["product","at"] (spBndR K ad.R):=(zu2 T).imp λvs H Q E ⟨a,r,k,h1,h2,h3,h4,h5⟩=>
 ⟨a,za6 r,k,h1,h2,by rw[zbf h3];decide,λz=>h4 (by rw[<-zhi];exact z),λz=>h5 (by rw[<-zhi];exact z)⟩
theorem qd4(T:Txt K mg ad):Ok P w K mg base 1 "quotients" ["rest","index"] spQuoR:=(qd3 T).imp λvs H Q E ⟨a,r,p,h1,h2,h3,h4,h5,h6,q⟩=>
 ⟨a,za6 r,8+p,pl r p,h1,h2,by rw[zbf h3];decide,zyu h3 h4,h6,znm h5 h3 p,λb H' _ s e=>q b H' s (by rw[zyt h3]at e;exact e)⟩
theorem qd9(T:Txt K mg ad):Ok P w K mg base 2 "narrowed" ["product","index","taken"] spNarR:=(zrf T).imp λvs H Q E ⟨a,b,y,q,p,h1,h2,h3,h4,h5,h6,h7,k⟩=>
 ⟨a,b,za6 y,za6 q,8+p,pl y p,h1,h2,h3,by rw[zbf h4];decide,by rw[zbf h5];decide,zyu h4 h6,pl_b h7 h4 p,
  λz=>k a H (Same.refl _) (by unfold zbc;rw[if_pos z];exact h2),λz c H' _ s e=>k c H' s (by rw[zrq h4 h5 z]at e;exact e)⟩
theorem qd0(T:Txt K mg ad):Ok P w K mg base 1 "without" ["product","index"] spWitR:=(zuy T).imp λvs H Q E ⟨a,r,p,h1,h2,h3,h4,q⟩=>
 ⟨a,za6 r,8+p,h1,h2,by rw[zbf h3];decide,λb H' _ s e=>q b H' s (by rw[zvg h3 h4]at e;exact e)⟩
theorem qd6(T:Txt K mg ad):Ok P w K mg base 4 "check_no_mark" ["rest","at"] (spNoMR K ad.R):=(zxp T).imp λvs H Q E ⟨a,r,k,h1,h2,h3,h4,h5⟩=>
 ⟨a,za6 r,k,h1,h2,λz=>h4 (by rw[zc4 h3,zh5]at z;simpa using z),λz=>h5 (by rw[zc4 h3,zh5]at z;simpa using z)⟩
theorem qd8(T:Txt K mg ad)(hK:K.In base)(hB:base.BuiltinsAt mg ad.pNP):Ok P w K mg base 1 "nearest_place" ["rest"] (spNeaR ad):=(qd7 T hK hB).imp λvs H Q E ⟨a,r,p,z,h1,h2,h3,h4,h5,q⟩=>
 ⟨a,za6 r,p,z,h1,h2,zbf h3,by rw[zb9 h3];exact h4,h5,q⟩
end
theorem Rows.push{H:Hp}:∀{rs:List Addr}{ss:List (List Int)}{r:Addr}{s:List Int},Rows H rs ss->LI H r s->Rows H (rs++[r]) (ss++[s])
 |_,_,_,_,.nil,h=>.cons h .nil
 |_,_,_,_,.cons a t,h=>.cons a (Rows.push t h)
theorem Rows.sameT{H H':Hp}(s:SameT H H'){rs:List Addr}{ss:List (List Int)}(h:Rows H rs ss):Rows H' rs ss:=Paired.mapP h λa b q=>s _ _ q (λ_ z=>nomatch z)
theorem _root_.L2.SameT.lst{H H':Hp}(s:SameT H H'){p:Addr}{xs:List V}(h:H p=some (.lst xs)):H' p=some (.lst xs):=s _ _ h (λ_ z=>nomatch z)
theorem LI.off{H:Hp}{q D:Addr}{l:List Int}{xs:List Addr}(h:LI H q l)(hl:l≠[])(hD:H D=some (.lst (xs.map V.ref))):q≠D:=λz=>by
 subst z
 rw[show H q=some (.lst (l.map V.int)) from h]at hD
 cases l with
 |nil=>exact hl rfl
 |cons a l=>
  cases xs with
  |nil=>simp at hD
  |cons x xs=>simp at hD
theorem Rows.off{H:Hp}{D:Addr}{xs:List Addr}{o:HO}(hD:H D=some (.lst (xs.map V.ref))):∀{rs:List Addr}{ss:List (List Int)},Rows H rs ss->(∀l∈ss,l≠[])->Rows (upd H D o) rs ss
 |_,_,.nil,_=>.nil
 |_,_,.cons (a:=a) (b:=b) h t,hl=>.cons (by show upd _ _ _ _=_;rw[zai (LI.off h (hl _ qgu) hD)];exact h) (Rows.off hD t λl m=>hl l (qf8 _ m))
theorem zdv{r:Row}(h:WF r):za6 r≠[]:=λz=>by have:=zbf h;rw[z]at this;cases this
def zwi(K:qfa)(ad:Ad):Sp:=λvs H Q E=>∃(b a:Addr)(s:List Row)(e:Row)(n:Nat)(k:Int)(rs:List Addr),vs=[.ref b,.ref a,.int k]/\H b=some (.lst (rs.map V.ref))/\Rows H rs (s.map za6)/\zb5 H a e/\SOk n s/\s.all Kp168.small=true/\WF e/\Lo n e/\Kp168.small e=true/\TOk ad H ∧
 match zcm n s e with
 |.inl v=>zaw K ad.R E v k
 |.inr t=>∀(b':Addr)(rs':List Addr)(s':List Row)(H':Hp),t=zg4 n s'->SOk n s'->s'.all Kp168.small=true->H' b'=some (.lst (rs'.map V.ref))->Rows H' rs' (s'.map za6)->SameT H H'->TOk ad H'->Q (.ref b') H'
def Wants(K:qfa)(ad:Ad)(n:Nat)(k:Int)(H:Hp)(Q:VK)(E:XK):Res->Prop
 |.inl v=>zaw K ad.R E v k
 |.inr t=>∀(b':Addr)(rs':List Addr)(s':List Row)(H':Hp),t=zg4 n s'->SOk n s'->s'.all Kp168.small=true->H' b'=some (.lst (rs'.map V.ref))->Rows H' rs' (s'.map za6)->SameT H H'->TOk ad H'->Q (.ref b') H'
structure Turn7(ad:Ad)(n:Nat)(k:Int)(a:Addr)(H0:Hp)(res:Res)(m:Nat)(σ:St)(H:Hp):Prop where
 ex:∃(b r':Addr)(rs:List Addr)(s:List Row)(r:Row)(fl:Bool)(ix:Nat)(v6 v7:Option V),σ=[some (.ref b),some (.ref a),some (.int k),some (.ref r'),some (.int ix),some (.bl fl),v6,v7]/\SameT H0 H/\TOk ad H/\H b=some (.lst (rs.map V.ref))/\Rows H rs (s.map za6)/\zb5 H r' r ∧
  SOk n s/\s.all Kp168.small=true/\WF r/\Lo n r/\Kp168.small r=true ∧
  (fl=true->∃p z f,nearest r.place=some (p,z)/\z.natAbs<f/\z.natAbs<m/\Kp168.one f (zg4 n s) r=res) ∧
  (fl=false->∃p,ix=8+p/\p<n/\p<24/\res=if Kp168.empty r.mark then .inr (zg4 n (s.map λy=>drop1 y p)) else .inl (-61))
theorem zq5{r:Row}{p:Nat}(h:Kp168.small r=true):Kp168.small (drop1 r p)=true:=by
 unfold Kp168.small at h ⊢
 rw[qfm]at h ⊢
 intro x hx
 rcases qfj.mp hx with hx|hx
 ·exact h x (qgq _ hx)
 ·rcases qht hx with hx|hx
  ·exact h x (qgf _ hx)
  ·subst hx;decide
section
variable{P:Program}{w:World}{K:qfa}{mg:Str->Option Value}{base:Heap}{ad:Ad}
theorem zu0(T:Txt K mg ad)(hK:K.In base)(hB:base.BuiltinsAt mg ad.pNP):Ok P w K mg base 6 "settled" ["filling","equation","at"] (zwi K ad):=by
 have O1:=zxt (P:=P) (w:=w) (base:=base) T
 have O2:=znx (P:=P) (w:=w) (base:=base) T
 have O3:=qd4 (P:=P) (w:=w) (base:=base) T
 have O4:=qd9 (P:=P) (w:=w) (base:=base) T
 have O5:=qd0 (P:=P) (w:=w) (base:=base) T
 have O6:=qd6 (P:=P) (w:=w) (base:=base) T
 have O7:=qd8 (P:=P) (w:=w) T hK hB
 have O8:=zek (P:=P) (w:=w) (base:=base) T
 refine T.f_settled.ok T.M c_settled (λvs H Q E h=>?_) (λf cdv A outer s0 H vs Q E hr h=>?_)
 ·obtain⟨b,a,s,e,n,k,rs,rfl,_⟩:=h
  rfl
 ·obtain⟨b,a,s,e,n,k,rs,rfl,hb,hR,ha,so,ssm,we,le,te,ht,q⟩:=h
  have q:Wants K ad n k H Q E (zcm n s e):=q
  have h1:Room 1 _:=hr.mono (by decide:1<=5)
  have h2:Room 2 _:=hr.mono (by decide:2<=5)
  have h4:Room 4 _:=hr.mono (by decide:4<=5)
  refine⟨_,zad (zao (i:=3) c_settled.nd rfl (Or.inl rfl) (cN O2 h4 zab (zaa (cN O1 h2 zab (zaa (pv 1) (zaa (pv 0) zae))) (zaa (pv 2) zae))))
   (zad (za9 (zm0 (zcf (za0 (zr8 rfl) rfl T.z_any (by decide +kernel) (zaa (cN O8 h1 zab (zaa (pv 3) zae)) zae)))) (zad (zal (cN O6 h4 zab (zaa (pv 3) (zaa (pv 2) zae)))) (zaf (zaq (pv 0)))) zav)
   (zad (zao (i:=4) c_settled.nd rfl (Or.inr rfl) zan)
   (zad (zao (i:=5) c_settled.nd rfl (Or.inl rfl) zpg)
   (zad (zd4 zbk (zcf (pv 5))
    (zad (zao (i:=4) c_settled.nd rfl (Or.inr rfl) (cN O7 h1 zab (zaa (pv 3) zae)))
    (zad (zao (i:=6) c_settled.nd rfl (Or.inr rfl) (cN O3 h1 zab (zaa (pv 3) (zaa (pv 4) zae))))
    (zad (zpe (i:=0) (own:=[("product",7)]) zab rfl rfl rfl c_settled.nd rfl rfl (by rfl) (zby (pv 0)) (zbs (by rfl)) (λ_ _ _ _ _=>zbg (i:=7) c_settled.nd rfl (Or.inl rfl)) (λ_ _ _ _ _=>zcp)
     (λ_ _ _ _ _ _ th=>cN O2 h4 th (zaa (cN O4 h2 th (zaa (pv 7) (zaa (pv 4) (zaa (pv 6) zae)))) (zaa (pv 2) zae))))
    (zad (zao (i:=3) c_settled.nd rfl (Or.inl rfl) (cN O2 h4 zab (zaa (cN O4 h2 zab (zaa (pv 3) (zaa (pv 4) (zaa (pv 6) zae)))) (zaa (pv 2) zae))))
    (zaf (zao (i:=5) c_settled.nd rfl (Or.inl rfl) (za0 (zr8 rfl) rfl T.z_any (by decide +kernel) (zaa (cN O8 h1 zab (zaa (cN O5 h1 zab (zaa (pv 3) (zaa (pv 4) zae))) zae)) zae)))))))))
   (zad (zal (cN O6 h4 zab (zaa (pv 3) (zaa (pv 2) zae))))
   (zaf (zaq (zl6 (own:=[("product",7)]) rfl c_settled.nd (zby (pv 0)) (zbs (by rfl)) (λ_ _ _ _ _=>zbg (i:=7) c_settled.nd rfl (Or.inl rfl)) (λ_ _ _ _ _=>zcp) (λ_ _ _ _ _=>cN O5 h1 th0 (zaa (pv 7) (zaa (pv 4) zae))))))))))),?_⟩
  have wfe:WF (filled s e):=zbt we so.wf
  have lfe:Lo n (filled s e):=zpr we so.wf so.lo
  refine⟨_,rfl,_,rfl,a,b,e,rs,s,rfl,ha,hb,hR,we,so.wf,(by rw[so.len];exact so.le),te,λr1 H1 n1 s1 e1=>?_⟩
  refine⟨_,rfl,r1,filled s e,k,rfl,e1,wfe,λsm=>?_,λsm=>?_⟩
  rotate_left
  ·have es:zcm n s e=.inl (-75):=by unfold zcm;rw[if_pos sm]
   rw[es]at q
   exact q
  have es:zcm n s e=Kp168.one Kp168.STEPS (zg4 n s) (filled s e):=by unfold zcm;rw[if_neg (by rw[sm];decide)]
  have e30:(2:Nat) ^ 30=1073741824:=by decide
  have e31:Kp168.STEPS=2147483647+1:=by decide
  refine⟨_,rfl,r1,_,rfl,e1,λr2 H2 n2 s2 e2=>⟨r2,_,rfl,SqL.of e2,_,rfl,?_⟩⟩
  rw[zb9 wfe,zh5]
  cases em:Kp168.empty (filled s e).place with
  |true=>
   have hn:nearest (filled s e).place=none:=nearest_none.mpr (empty_iff.mp em)
   rw[e31,zti hn]at es
   refine⟨_,rfl,_,rfl,r1,filled s e,k,rfl,s2 _ _ e1,wfe,λmk H3 s3=>?_,λmk=>?_⟩
   ·rw[mk]at es
    rw[es]at q
    have S:=s1.trans (s2.trans s3)
    exact⟨_,rfl,q b rs s H3 rfl so ssm (S _ _ hb) (hR.same S) S.t (ht.same S)⟩
   ·rw[mk]at es
    rw[es]at q
    exact q
  |false=>
   obtain⟨p0,z0,hn0⟩:∃p z,nearest (filled s e).place=some (p,z):=by
    cases hc:nearest (filled s e).place with
    |none=>exact absurd (empty_iff.mpr (nearest_none.mp hc)) (by rw[em];decide)
    |some x=>exact⟨x.1,x.2,rfl⟩
   have S2:=s1.trans s2
   refine⟨Turn7 ad n k a H (zcm n s e),⟨2147483648,?_⟩,?_⟩
   ·obtain⟨_,_,hpl,_⟩:=zin wfe lfe hn0
    have hb0:=znm sm wfe p0
    rw[hpl,e30]at hb0
    refine⟨b,r1,rs,s,filled s e,true,0,none,none,rfl,S2.t,ht.same S2,S2 _ _ hb,hR.same S2,s2 _ _ e1,so,ssm,wfe,lfe,sm,λ_=>⟨p0,z0,Kp168.STEPS,hn0,by rw[e31];lia,by lia,es.symm⟩,λz=>by cases z⟩
   ·rintro m σ H3 ⟨b',r',rs',s',r,fl,ix,v6,v7,rfl,st,tb,hb',hR',hr',so',ssm',wr,lr,smr,g1,g2⟩
    refine⟨_,rfl,fl,rfl,?_⟩
    cases fl with
    |true=>
     obtain⟨p,z,f,hn,hzf,hzm,ho⟩:=g1 rfl
     obtain⟨hpn,hp24,hpl,hz0⟩:=zin wr lr hn
     obtain⟨f,rfl⟩:∃f',f=f'+1:=⟨f - 1,by lia⟩
     rw[zth so' wr lr hn]at ho
     obtain⟨to1,to2,to3⟩:=zwc so' wr lr hn
     refine⟨λσ' H'=>∃m',m'<m/\Turn7 ad n k a H (zcm n s e) m' σ' H',λσ' H' h=>h,?_⟩
     refine⟨_,rfl,r',r,p,z,rfl,hr',wr,hn,tb,λH4 s4 t4=>?_⟩
     refine⟨_,rfl,_,rfl,r',r,p,rfl,s4.lst hr',wr,hp24,smr,(by rw[hpl];exact hz0),λbq H5 s5 e5=>?_⟩
     rw[hpl]at e5
     have S5:=s4.trans s5.t
     have R5:=hR'.sameT S5
     refine⟨_,rfl,b',rfl,⟨_,SqL.of (S5.lst hb')⟩,λD hD=>?_⟩
     have wq:WF (ze9 r p z):=zv6 p z wr
     refine zfq (xs:=rs'.map V.ref) (λi H6=>∃rs2,Same H5 H6/\H6 D=some (.lst (rs2.map V.ref))/\Rows H6 rs2 (((s'.take i).map λy=>zbc y p (ze9 r p z)).map za6)/\((s'.take i).map λy=>zbc y p (ze9 r p z)).all Kp168.small=true)
      ⟨[],zaj hD _,by rw[zac];rfl,by rw[qkc];exact Paired.nil,rfl⟩ (λi H6 _ ⟨_,s6,_⟩=>SqL.of (s6 _ _ (S5.lst hb'))) (λi x H6 hx ⟨rs2,s6,e6,R6,all6⟩=>?_) λH6 ⟨rs2,s6,e6,R6,all6⟩=>?_
     ·rw[qfe]at hx
      obtain⟨g,hg,rfl⟩:=qff.mp hx
      obtain⟨sg,hsg,eg⟩:=(R5.same s6).get hg
      rw[qfe]at hsg
      obtain⟨y,hy,rfl⟩:=qff.mp hsg
      have my:=qfw hy
      have wy:=so'.wf y my
      have smy:=qfm.mp ssm' y my
      have lenr:rs2.length<=24:=by
       have:=R6.len
       rw[qe9,qe9,qfx]at this
       have:=so'.len;have:=so'.le;lia
      refine⟨rfl,_,rfl,_,rfl,_,rfl,g,bq,y,ze9 r p z,p,rfl,eg,s6 _ _ e5,wy,wq,hp24,smy,λc H7 s7 e7=>?_⟩
      refine⟨_,rfl,c,_,k,rfl,e7,zj4 wy wq,λsn=>?_,λsn=>?_⟩
      ·refine⟨_,s7 _ _ e6,by rw[qe9];exact zhc (by lia),rs2++[c],zay (s6.trans s7) hD _,by rw[zac,qfg];rfl,?_,?_⟩
       ·rw[qgi,hy,qgz,qfg,qfg]
        refine Rows.off (s7 _ _ e6) (Rows.push (R6.same s7) e7) λl hl=>?_
        have wfn:∀y'∈s',za6 (zbc y' p (ze9 r p z))≠[]:=λy' hy'=>zdv (zj4 (so'.wf y' hy') wq)
        rcases qfj.mp hl with hl|hl
        ·obtain⟨u,hu,rfl⟩:=qf0.mp hl
         obtain⟨y',hy',rfl⟩:=qf0.mp hu
         exact wfn y' (qg4 hy')
        ·rw[qfq.mp hl];exact wfn y my
       ·rw[qgi,hy,qgz,qfg,qg1,all6]
        simp[sn]
      ·have hall:(s'.map λy=>zbc y p (ze9 r p z)).all Kp168.small=false:=by
        rw[qga]
        intro zz
        have:=qfm.mp zz (zbc y p (ze9 r p z)) (List.mem_map_of_mem my)
        rw[sn]at this;cases this
       rw[if_pos hall]at ho
       rw[<-ho]at q
       exact q
     ·rw[qe9,R5.len,qe9,qgr]at R6 all6
      rw[if_neg (by rw[all6];decide)]at ho
      have S6:=S5.trans s6.t
      refine⟨_,rfl,_,rfl,_,rfl,r',bq,r,ze9 r p z,p,rfl,S6.lst hr',s6 _ _ e5,wr,wq,hp24,smr,λc H7 s7 e7=>?_⟩
      refine⟨_,rfl,c,_,k,rfl,e7,to2,λsn=>?_,λsn=>?_⟩
      ·rw[if_neg (by rw[sn];decide)]at ho
       refine⟨_,rfl,_,rfl,c,_,p,rfl,e7,to2,hp24,λd H8 s8 e8=>?_⟩
       refine⟨d,_,rfl,e8,λd2 H9 n9 s9 e9=>⟨d2,_,rfl,SqL.of e9,?_⟩⟩
       have S9:=s7.trans (s8.trans s9)
       rw[zb9 (zjr p to2),zh5]
       cases em2:Kp168.empty (drop1 (zbc r p (ze9 r p z)) p).place with
       |true=>
        rw[em2,if_pos rfl]at ho
        refine⟨0,by lia,D,c,rs2,_,_,false,8+p,_,_,rfl,(st.trans S6).trans S9.t,(t4.same (s5.trans (s6.trans S9))),S9 _ _ e6,R6.same S9,(s8.trans s9) _ _ e7,to1,all6,to2,to3,sn,(λzz=>by cases zz),λ_=>⟨p,rfl,hpn,hp24,ho.symm⟩⟩
       |false=>
        rw[em2,if_neg (by decide)]at ho
        obtain⟨p',z',hn',hlt'⟩:=zug wr lr hn em2
        refine⟨z.natAbs,hzm,D,c,rs2,_,_,true,8+p,_,_,rfl,(st.trans S6).trans S9.t,(t4.same (s5.trans (s6.trans S9))),S9 _ _ e6,R6.same S9,(s8.trans s9) _ _ e7,to1,all6,to2,to3,sn,λ_=>⟨p',z',f,hn',by lia,hlt',ho⟩,λzz=>by cases zz⟩
      ·rw[if_pos sn]at ho
       rw[<-ho]at q
       exact q
    |false=>
     obtain⟨p,rfl,hpn,hp24,ho⟩:=g2 rfl
     refine⟨_,rfl,_,rfl,r',r,k,rfl,hr',wr,λmk H4 s4=>?_,λmk=>?_⟩
     ·rw[mk,if_pos rfl]at ho
      rw[ho]at q
      refine⟨_,rfl,b',rfl,⟨_,SqL.of (s4 _ _ hb')⟩,λD hD=>?_⟩
      refine zfq (xs:=rs'.map V.ref) (λi H6=>∃rs2,Same H4 H6/\H6 D=some (.lst (rs2.map V.ref))/\Rows H6 rs2 (((s'.take i).map λy=>drop1 y p).map za6))
       ⟨[],zaj hD _,by rw[zac];rfl,by rw[qkc];exact Paired.nil⟩ (λi H6 _ ⟨_,s6,_⟩=>SqL.of (s6 _ _ (s4 _ _ hb'))) (λi x H6 hx ⟨rs2,s6,e6,R6⟩=>?_) λH6 ⟨rs2,s6,e6,R6⟩=>?_
      ·rw[qfe]at hx
       obtain⟨g,hg,rfl⟩:=qff.mp hx
       obtain⟨sg,hsg,eg⟩:=(hR'.same (s4.trans s6)).get hg
       rw[qfe]at hsg
       obtain⟨y,hy,rfl⟩:=qff.mp hsg
       have my:=qfw hy
       have wy:=so'.wf y my
       have lenr:rs2.length<=24:=by
        have:=R6.len
        rw[qe9,qe9,qfx]at this
        have:=so'.len;have:=so'.le;lia
       refine⟨rfl,_,rfl,_,rfl,g,y,p,rfl,eg,wy,hp24,λc H7 s7 e7=>?_⟩
       refine⟨_,s7 _ _ e6,by rw[qe9];exact zhc (by lia),rs2++[c],zay (s6.trans s7) hD _,by rw[zac,qfg];rfl,?_⟩
       rw[qgi,hy,qgz,qfg,qfg]
       refine Rows.off (s7 _ _ e6) (Rows.push (R6.same s7) e7) λl hl=>?_
       rcases qfj.mp hl with hl|hl
       ·obtain⟨u,hu,rfl⟩:=qf0.mp hl
        obtain⟨y',hy',rfl⟩:=qf0.mp hu
        exact zdv (zjr p (so'.wf y' (qg4 hy')))
       ·rw[qfq.mp hl];exact zdv (zjr p wy)
      ·rw[qe9,hR'.len,qe9,qgr]at R6
       have S:=s4.trans s6
       refine q D rs2 _ H6 rfl (zpb so' hpn) ?_ e6 R6 (st.trans S.t) (tb.same S)
       rw[qfm]
       intro x hx
       obtain⟨y,hy,rfl⟩:=qf0.mp hx
       exact zq5 (qfm.mp ssm' y hy)
     ·rw[mk,if_neg (by decide)]at ho
      rw[ho]at q
      exact q
end
def zz5(K:qfa)(ad:Ad):Sp:=λvs H Q E=>∃(b:Addr)(es:List Row)(rs:List Addr)(n:Nat)(k:Int),vs=[.ref b,.int n,.int k]/\H b=some (.lst (rs.map V.ref))/\Rows H rs (es.map za6)/\(∀e∈es,WF e/\Lo n e)/\n<=24/\TOk ad H ∧
 match zdz n es with
 |.inl v=>zaw K ad.R E v k
 |.inr o=>∀(b':Addr)(rs':List Addr)(H':Hp),H' b'=some (.lst (rs'.map V.ref))->Rows H' rs' (o.map za6)->SOk n o->o.all Kp168.small=true->SameT H H'->TOk ad H'->Q (.ref b') H'
theorem zuj{r:Row}(h:zzr r=true):Kp168.small r=true:=by
 rw[<-zsx]at h
 rw[<-zhi]
 unfold inB at h ⊢
 rw[qfm]at h ⊢
 intro x hx
 have:=h x hx
 simp only[qft,decide_eq_true_eq]at this ⊢
 lia
section
variable{P:Program}{w:World}{K:qfa}{mg:Str->Option Value}{base:Heap}{ad:Ad}
theorem zxk(T:Txt K mg ad)(hK:K.In base)(hB:base.BuiltinsAt mg ad.pNP):Ok P w K mg base 7 "solved" ["equations","count","at"] (zz5 K ad):=by
 have O1:=zpm (P:=P) (w:=w) (base:=base) T
 have O2:=ztk (P:=P) (w:=w) (base:=base) T
 have O3:=zu0 (P:=P) (w:=w) T hK hB
 have X1:=zky (P:=P) (w:=w) (base:=base) T
 obtain⟨t1,hL⟩:=T.k_LARGEST_TOLD
 refine T.f_solved.ok T.M c_solved (λvs H Q E h=>?_) (λf cdv A outer s0 H vs Q E hr h=>?_)
 ·obtain⟨b,es,rs,n,k,rfl,_⟩:=h
  rfl
 ·obtain⟨b,es,rs,n,k,rfl,hb,hR,hes,hn,ht,q⟩:=h
  have h1:Room 1 _:=hr.mono (by decide:1<=6)
  have h2:Room 2 _:=hr.mono (by decide:2<=6)
  have h3:Room 3 _:=hr.mono (by decide:3<=6)
  refine⟨_,zad (zei zbk rfl (zby (pv 0)) (zbg (i:=3) c_solved.nd rfl (Or.inl rfl)) (zaf (za9 (zm0 (zcf (cN O1 h1 zab (zaa (pv 3) (zaa (zat (v:=.int 1048576) rfl hL ⟨_,rfl⟩) zae))))) (zaf (znr X1 h3 zab (pv 2))) zav)))
   (zad (znq (i:=4) (own:=[("place",5)]) rfl c_solved.nd rfl rfl (by rfl) (zw8 rfl T.z_range (zaa (pv 1) zae)) (zbs (by rfl)) (λ_ _ _ _ _=>zbg (i:=5) c_solved.nd rfl (Or.inl rfl)) (λ_ _ _ _ _=>zcp) (λ_ _ _ _ _=>cN O2 h2 th0 (zaa (pv 5) zae)))
   (zad (zei zbk rfl (zby (pv 0)) (zbg (i:=3) c_solved.nd rfl (Or.inl rfl)) (zaf (zao (i:=4) c_solved.nd rfl (Or.inl rfl) (cN O3 hr zab (zaa (pv 4) (zaa (pv 3) (zaa (pv 2) zae)))))))
   (zaf (zaq (pv 4))))),?_⟩
  refine⟨_,rfl,b,rfl,⟨_,SqL.of hb⟩,zex (xs:=rs.map V.ref) (λi σ H'=>H'=H/\(∃v3,σ=[some (.ref b),some (.int n),some (.int k),v3,none,none])/\(es.take i).all zzr=true) ⟨rfl,⟨none,rfl⟩,rfl⟩ (λi σ H' _ ⟨e,_⟩=>by rw[e];exact SqL.of hb) ?_ ?_⟩
  ·rintro i x σ H' hx ⟨rfl,⟨v3,rfl⟩,hall⟩
   rw[qfe]at hx
   obtain⟨g,hg,rfl⟩:=qff.mp hx
   obtain⟨sg,hsg,eg⟩:=hR.get hg
   rw[qfe]at hsg
   obtain⟨y,hy,rfl⟩:=qff.mp hsg
   have my:=qfw hy
   refine⟨_,rfl,g,za6 y,1048576,rfl,eg,by rw[zbf (hes y my).1];decide,_,rfl,?_⟩
   rw[zsx]
   cases e:zzr y with
   |true=>
    refine⟨rfl,⟨_,rfl⟩,?_⟩
    rw[qgi,hy,qgz,qg1,hall]
    simp[e]
   |false=>
    refine⟨_,rfl,k,rfl,?_⟩
    have:es.all zzr=false:=by
     rw[qga]
     intro z
     have:=qfm.mp z y my
     rw[e]at this;cases this
    have es':zdz n es=.inl (-22):=by unfold zdz;rw[if_pos this]
    rw[es']at q
    exact q
  ·rintro σ H' ⟨rfl,⟨v3,rfl⟩,hall⟩
   rw[qe9,hR.len,qe9,qgr]at hall
   have esol:zdz n es=match zvt itself es with|.inl v=>.inl v|.inr t=>.inr (t.take n):=by unfold zdz;rw[if_neg (by rw[hall];decide)] <;> cases zvt itself es <;> rfl
   rw[esol]at q
   refine⟨_,rfl,n,rfl,(by lia),(by lia),λD hD=>?_⟩
   refine ztt (λi H6=>∃rs2,Same H' H6/\H6 D=some (.lst (rs2.map V.ref))/\Rows H6 rs2 (((qgh i).map ofPlace).map za6)) ⟨[],zaj hD _,by rw[zac];rfl,Paired.nil⟩ (λi H6 hi ⟨rs2,s6,e6,R6⟩=>?_) λH6 ⟨rs2,s6,e6,R6⟩=>?_
   ·have lenr:rs2.length<=24:=by
     have:=R6.len
     rw[qe9,qe9,qjq]at this
     lia
    have hi':i<n:=by simpa using hi
    refine⟨rfl,_,rfl,i,by simp,by lia,λc H7 n7 s7 e7=>?_⟩
    refine⟨_,s7 _ _ e6,by rw[qe9];exact zhc (by lia),rs2++[c],zay (s6.trans s7) hD _,by rw[zac,qfg];rfl,?_⟩
    rw[qiu,qfg,qfg]
    rw[zjg (by lia)]at e7
    refine Rows.off (s7 _ _ e6) (Rows.push (R6.same s7) e7) λl hl=>?_
    rcases qfj.mp hl with hl|hl
    ·obtain⟨u,hu,rfl⟩:=qf0.mp hl
     obtain⟨y',hy',rfl⟩:=qf0.mp hu
     exact zdv (zau _)
    ·rw[qfq.mp hl];exact zdv (zau _)
   ·have hcnt:((n:Int)).toNat=n:=by simp
    have R6':Rows H6 rs2 (((qgh n).map ofPlace).map za6):=by
     first|exact R6|(rw[hcnt]at R6;exact R6)
    refine⟨_,rfl,b,rfl,⟨_,SqL.of (s6 _ _ hb)⟩,zex (xs:=rs.map V.ref) (λi σ H7=>∃(b':Addr)(rs':List Addr)(s':List Row)(v3 v5:Option V),σ=[some (.ref b),some (.int n),some (.int k),v3,some (.ref b'),v5]/\SameT H' H7/\TOk ad H7/\H7 b'=some (.lst (rs'.map V.ref))/\Rows H7 rs' (s'.map za6) ∧
     SOk n s'/\s'.all Kp168.small=true/\zvt (zg4 n s') (es.drop i)=zvt itself es) ?_ ?_ ?_ ?_⟩
    ·refine⟨D,rs2,_,v3,none,rfl,s6.t,ht.same s6,e6,R6',zpa hn,?_,by rw[zne hn,qhu]⟩
     rw[qfm]
     intro x hx
     obtain⟨p,_,rfl⟩:=qf0.mp hx
     exact zcl p
    ·rintro i σ H7 _ ⟨b',rs',s',v3,v5,_,s7,_⟩
     exact SqL.of (s7.lst hb)
    ·rintro i x σ H7 hx ⟨b',rs',s',v3,v5,rfl,s7,t7,hb7,R7,so7,sm7,ha7⟩
     rw[qfe]at hx
     obtain⟨g,hg,rfl⟩:=qff.mp hx
     obtain⟨sg,hsg,eg⟩:=(hR.sameT s7).get hg
     rw[qfe]at hsg
     obtain⟨y,hy,rfl⟩:=qff.mp hsg
     have my:=qfw hy
     have hdrop:es.drop i=y::es.drop (i+1):=by
      obtain⟨hi1,hi2⟩:=qfc.mp hy
      rw[qf9 hi1,hi2]
     rw[hdrop,zqo so7 (hes y my).1 (hes y my).2]at ha7
     refine⟨_,rfl,_,rfl,_,rfl,b',g,s',y,n,k,rs',rfl,hb7,R7,eg,so7,sm7,(hes y my).1,(hes y my).2,zuj (qfm.mp hall y my),t7,?_⟩
     cases es':zcm n s' y with
     |inl v=>
      rw[es']at ha7
      rw[<-ha7]at q
      exact q
     |inr t=>
      rw[es']at ha7
      intro b8 rs8 s8 H8 et so8 sm8 hb8 R8 st8 t8
      subst et
      exact⟨b8,rs8,s8,_,_,rfl,s7.trans st8,t8,hb8,R8,so8,sm8,ha7⟩
    ·rintro σ H7 ⟨b',rs',s',v3,v5,rfl,s7,t7,hb7,R7,so7,sm7,ha7⟩
     rw[qe9,hR.len,qe9,qhi]at ha7
     rw[<-ha7]at q
     have q':∀(b':Addr)(rs':List Addr)(H'':Hp),H'' b'=some (.lst (rs'.map V.ref))->Rows H'' rs' (((zg4 n s').take n).map za6)->SOk n ((zg4 n s').take n)->((zg4 n s').take n).all Kp168.small=true->SameT H' H''->TOk ad H''->Q (.ref b') H'':=q
     rw[zp1 so7]at q'
     exact⟨_,rfl,q' b' rs' H7 hb7 R7 so7 sm7 s7 t7⟩
end
open Kp169 (Bytes Known more shift alike)
noncomputable abbrev zhb:=Kp169.Kind
noncomputable def S(x:Bytes):Str:=⟨x.toArray⟩
theorem zqq{x y:Bytes}(h:S x=S y):x=y:=by
 have:=congrArg Str.cps h
 simpa [S] using this
noncomputable def kf(lo c:Addr)(n:Int):List (Str×V):=[("of",.ref lo),("comes",.ref c),("places",.int n)]
noncomputable def KindAt(ad:Ad)(H:Hp)(q:Addr)(kd:zhb):Prop:=∃(dx lo c:Addr)(ors:List Addr),H q=some (.ins ad.Kind dx (kf lo c kd.places))/\H lo=some (.lst (ors.map V.ref))/\Rows H ors (kd.of.map za6)/\zb5 H c kd.comes
noncomputable def KnownAt(ad:Ad)(H:Hp)(d:Addr)(known:Known):Prop:=∃kvs:List (Key×V),H d=some (.dK kvs)/\kvs.length<=known.length/\∀x:Bytes,match known.find? λq=>q.1 == x with
 |some q=>∃a,ze8 kvs (.inr (S x))=some (.ref a)/\KindAt ad H a q.2
 |none=>ze8 kvs (.inr (S x))=none
noncomputable def OwnAt(H:Hp)(lo:Addr)(ps:List Bytes):Prop:=∃kvs:List (Key×V),H lo=some (.dK kvs)/\kvs.length<=ps.length/\∀x:Bytes,match ps.idxOf? x with
 |some k=>∃a,ze8 kvs (.inr (S x))=some (.ref a)/\zb5 H a (ofPlace k)
 |none=>ze8 kvs (.inr (S x))=none
noncomputable def wf(k:Int)(d lo:Addr)(n:Int)(le lc:Addr):List (Str×V):=[("at",.int k),("known",.ref d),("own",.ref lo),("used",.int n),("equations",.ref le),("came",.ref lc)]
noncomputable def zmm(H H':Hp):Prop:=∀a r,WF r->zb5 H a r->zb5 H' a r
theorem Same.keepR{H H':Hp}(s:Same H H'):zmm H H':=λa r _ h=>s _ _ h
noncomputable def zni(H:Hp)(a:Addr):Prop:=∀l:List Int,l≠[]->H a≠some (.lst (l.map V.int))
theorem zgx{H:Hp}{a:Addr}{xs:List Addr}(h:H a=some (.lst (xs.map V.ref))):zni H a:=λl hl z=>LI.off (q:=a) (D:=a) z hl h rfl
theorem zil{H:Hp}{a C dx:Addr}{fs:List (Str×V)}(h:H a=some (.ins C dx fs)):zni H a:=λl hl z=>by rw[h]at z;cases z
theorem zrn{H:Hp}{a:Addr}{kvs:List (Key×V)}(h:H a=some (.dK kvs)):zni H a:=λl hl z=>by rw[h]at z;cases z
theorem zel{H:Hp}{a:Addr}(n:zni H a)(o:HO):zmm H (upd H a o):=λp r w h=>by
 show upd H a o p=_
 rw[zai (λz=>by subst z;exact n _ (zdv w) h)];exact h
theorem Rows.keep{H H':Hp}(k:zmm H H'):∀{rs:List Addr}{s:List Row},(∀x∈s,WF x)->Rows H rs (s.map za6)->Rows H' rs (s.map za6)
 |_,[],_,.nil=>.nil
 |_,y::s,hw,.cons h t=>.cons (k _ _ (hw y qgu) h) (Rows.keep k (λx hx=>hw x (qf8 _ hx)) t)
theorem Rows.take{H:Hp}:∀{rs:List Addr}{ss:List (List Int)}(n:Nat),Rows H rs ss->Rows H (rs.take n) (ss.take n)
 |_,_,0,_=>.nil
 |_,_,_+1,.nil=>.nil
 |_,_,n+1,.cons a t=>.cons a (Rows.take n t)
theorem Rows.drop{H:Hp}:∀{rs:List Addr}{ss:List (List Int)}(n:Nat),Rows H rs ss->Rows H (rs.drop n) (ss.drop n)
 |_,_,0,h=>h
 |_,_,_+1,.nil=>.nil
 |_,_,n+1,.cons a t=>Rows.drop n t
theorem KindAt.same{ad:Ad}{H H':Hp}(s:Same H H'){q:Addr}{kd:zhb}(h:KindAt ad H q kd):KindAt ad H' q kd:=by
 obtain⟨dx,lo,c,ors,h1,h2,h3,h4⟩:=h
 exact⟨dx,lo,c,ors,s _ _ h1,s _ _ h2,h3.same s,s _ _ h4⟩
theorem KindAt.sameT{ad:Ad}{H H':Hp}(s:SameT H H'){q:Addr}{kd:zhb}(h:KindAt ad H q kd):KindAt ad H' q kd:=by
 obtain⟨dx,lo,c,ors,h1,h2,h3,h4⟩:=h
 exact⟨dx,lo,c,ors,s _ _ h1 (λ_ z=>nomatch z),s _ _ h2 (λ_ z=>nomatch z),h3.sameT s,s _ _ h4 (λ_ z=>nomatch z)⟩
theorem KnownAt.sameT{ad:Ad}{H H':Hp}(s:SameT H H'){d:Addr}{known:Known}(h:KnownAt ad H d known):KnownAt ad H' d known:=by
 obtain⟨kvs,h1,h2,h3⟩:=h
 refine⟨kvs,s _ _ h1 (λ_ z=>nomatch z),h2,λx=>?_⟩
 have:=h3 x
 cases e:known.find? λq=>q.1 == x with
 |none=>rw[e]at this;exact this
 |some q=>
  rw[e]at this
  obtain⟨a,a1,a2⟩:=this
  exact⟨a,a1,a2.sameT s⟩
theorem KnownAt.get{ad:Ad}{H:Hp}{d:Addr}{known:Known}(h:KnownAt ad H d known){x:Bytes}{q:Bytes×zhb}(e:(known.find? λq=>q.1 == x)=some q):∃kvs a,H d=some (.dK kvs)/\ze8 kvs (.inr (S x))=some (.ref a)/\KindAt ad H a q.2:=by
 obtain⟨kvs,h1,_,h3⟩:=h
 have:=h3 x
 rw[e]at this
 obtain⟨a,a1,a2⟩:=this
 exact⟨kvs,a,h1,a1,a2⟩
theorem OwnAt.keep{H H':Hp}{lo:Addr}{ps:List Bytes}(h:OwnAt H lo ps)(e:∀o,H lo=some o->H' lo=some o)(k:zmm H H'):OwnAt H' lo ps:=by
 obtain⟨kvs,h1,h2,h3⟩:=h
 refine⟨kvs,e _ h1,h2,λx=>?_⟩
 have:=h3 x
 cases e:ps.idxOf? x with
 |none=>rw[e]at this;exact this
 |some q=>
  rw[e]at this
  obtain⟨a,a1,a2⟩:=this
  exact⟨a,a1,k _ _ (zau q) a2⟩
structure WAt(ad:Ad)(H0 H:Hp)(wk:Addr)(k:Int)(d:Addr)(ps:List Bytes)(m:MS)(dx lo le lc:Addr)(ers crs:List Addr):Prop where
 same:Same H0 H
 f1:H0 wk=none
 f2:H0 le=none
 f3:H0 lc=none
 f4:H0 lo=none
 ne:le≠lc
 ob:H wk=some (.ins ad.Work dx (wf k d lo m.s.n le lc))
 eqs:H le=some (.lst (ers.map V.ref))
 er:Rows H ers (m.s.eqs.map za6)
 came:H lc=some (.lst (crs.map V.ref))
 cr:Rows H crs (m.st.map za6)
 own:OwnAt H lo ps
 we:∀x∈m.s.eqs,WF x
 wc:∀x∈m.st,WF x
section
variable{ad:Ad}{H0 H:Hp}{wk:Addr}{k:Int}{d:Addr}{ps:List Bytes}{m:MS}{dx lo le lc:Addr}{ers crs:List Addr}
theorem WAt.toSame{H':Hp}(W:WAt ad H0 H wk k d ps m dx lo le lc ers crs)(s:Same H H'):WAt ad H0 H' wk k d ps m dx lo le lc ers crs:=
 ⟨W.same.trans s,W.f1,W.f2,W.f3,W.f4,W.ne,s _ _ W.ob,s _ _ W.eqs,W.er.same s,s _ _ W.came,W.cr.same s,W.own.keep (λo h=>s _ _ h) (Same.keepR s),W.we,W.wc⟩
theorem WAt.wle(W:WAt ad H0 H wk k d ps m dx lo le lc ers crs):wk≠le:=zf9 W.ob W.eqs (by intro z;cases z)
theorem WAt.wlc(W:WAt ad H0 H wk k d ps m dx lo le lc ers crs):wk≠lc:=zf9 W.ob W.came (by intro z;cases z)
theorem WAt.own'(W:WAt ad H0 H wk k d ps m dx lo le lc ers crs){a:Addr}{o:HO}(n:zni H a)(hl:lo≠a):OwnAt (upd H a o) lo ps:=W.own.keep (λu h=>by rw[zai hl];exact h) (zel n o)
theorem WAt.low(W:WAt ad H0 H wk k d ps m dx lo le lc ers crs):lo≠wk/\lo≠le/\lo≠lc:=by
 obtain⟨kvs,h1,_⟩:=W.own
 exact⟨zf9 h1 W.ob (by intro z;cases z),zf9 h1 W.eqs (by intro z;cases z),zf9 h1 W.came (by intro z;cases z)⟩
theorem WAt.used(W:WAt ad H0 H wk k d ps m dx lo le lc ers crs)(n:Nat):WAt ad H0 (upd H wk (.ins ad.Work dx (wf k d lo n le lc))) wk k d ps ⟨⟨n,m.s.eqs⟩,m.st⟩ dx lo le lc ers crs/\zmm H (upd H wk (.ins ad.Work dx (wf k d lo n le lc))):=by
 have nr:=zil W.ob
 have kr:=zel nr (.ins ad.Work dx (wf k d lo n le lc))
 exact⟨⟨zay W.same W.f1 _,W.f1,W.f2,W.f3,W.f4,W.ne,zac,by rw[zai W.wle.symm];exact W.eqs,W.er.keep kr W.we,by rw[zai W.wlc.symm];exact W.came,W.cr.keep kr W.wc,W.own' nr W.low.1,W.we,W.wc⟩,kr⟩
theorem WAt.tell(W:WAt ad H0 H wk k d ps m dx lo le lc ers crs){a:Addr}{e:Row}(ha:zb5 H a e)(we:WF e):WAt ad H0 (upd H le (.lst (ers.map V.ref++[.ref a]))) wk k d ps ⟨⟨m.s.n,m.s.eqs++[e]⟩,m.st⟩ dx lo le lc (ers++[a]) crs/\zmm H (upd H le (.lst (ers.map V.ref++[.ref a]))):=by
 have nr:=zgx W.eqs
 have kr:=zel nr (.lst (ers.map V.ref++[.ref a]))
 refine⟨⟨zay W.same W.f2 _,W.f1,W.f2,W.f3,W.f4,W.ne,by rw[zai W.wle];exact W.ob,by rw[zac,qfg];rfl,?_,by rw[zai W.ne.symm];exact W.came,W.cr.keep kr W.wc,W.own' nr W.low.2.1,λx hx=>?_,W.wc⟩,kr⟩
 ·show Rows _ _ ((m.s.eqs++[e]).map za6)
  rw[qfg]
  exact Rows.push (W.er.keep kr W.we) (kr _ _ we ha)
 ·rcases qfj.mp hx with hx|hx
  ·exact W.we x hx
  ·rw[qfq.mp hx];exact we
theorem WAt.put(W:WAt ad H0 H wk k d ps m dx lo le lc ers crs){crs':List Addr}{st':List Row}(hr:Rows H crs' (st'.map za6))(hw:∀x∈st',WF x):WAt ad H0 (upd H lc (.lst (crs'.map V.ref))) wk k d ps ⟨m.s,st'⟩ dx lo le lc ers crs'/\zmm H (upd H lc (.lst (crs'.map V.ref))):=by
 have nr:=zgx W.came
 have kr:=zel nr (.lst (crs'.map V.ref))
 exact⟨⟨zay W.same W.f3 _,W.f1,W.f2,W.f3,W.f4,W.ne,by rw[zai W.wlc];exact W.ob,by rw[zai W.ne];exact W.eqs,W.er.keep kr W.we,zac,hr.keep kr hw,W.own' nr W.low.2.2,W.we,hw⟩,kr⟩
theorem WAt.anew(W:WAt ad H0 H wk k d ps m dx lo le lc ers crs){lc':Addr}{crs':List Addr}{st':List Row}(h0:H0 lc'=none)(hn:le≠lc')(hl:H lc'=some (.lst (crs'.map V.ref)))(hr:Rows H crs' (st'.map za6))(hw:∀x∈st',WF x) :
  WAt ad H0 (upd H wk (.ins ad.Work dx (wf k d lo m.s.n le lc'))) wk k d ps ⟨m.s,st'⟩ dx lo le lc' ers crs'/\zmm H (upd H wk (.ins ad.Work dx (wf k d lo m.s.n le lc'))):=by
 have nr:=zil W.ob
 have kr:=zel nr (.ins ad.Work dx (wf k d lo m.s.n le lc'))
 exact⟨⟨zay W.same W.f1 _,W.f1,W.f2,h0,W.f4,hn,zac,by rw[zai W.wle.symm];exact W.eqs,W.er.keep kr W.we,by rw[zai (zf9 hl W.ob (by intro z;cases z))];exact hl,hr.keep kr hw,W.own' nr W.low.1,W.we,hw⟩,kr⟩
end
noncomputable def spKind(ad:Ad):Sp:=λvs H Q _=>∃(p dx lo c:Addr)(n:Int),vs=[.ref p,.ref lo,.ref c,.int n]/\H p=some (.ins ad.Kind dx [])/\∀H',H' p=some (.ins ad.Kind dx (kf lo c n))->(∀b o,H b=some o->b≠p->H' b=some o)->Q .non H'
noncomputable def spWork(ad:Ad):Sp:=λvs H Q _=>∃(p dx d:Addr)(k:Int),vs=[.ref p,.int k,.ref d]/\H p=some (.ins ad.Work dx [])/\∀lo le lc H',H lo=none->H le=none->H lc=none->le≠lc->H' p=some (.ins ad.Work dx (wf k d lo 0 le lc))->H' lo=some (.dK [])->H' le=some (.lst [])->H' lc=some (.lst []) ->
 (∀b o,H b=some o->b≠p->H' b=some o)->Q .non H'
noncomputable def F1(H H':Hp)(a:Addr):Prop:=∀b o,H b=some o->b≠a->H' b=some o
theorem F1.keepR{H H':Hp}{a:Addr}(f:F1 H H' a)(n:zni H a):zmm H H':=λp r w h=>f _ _ h λz=>by subst z;exact n _ (zdv w) h
theorem F1.same{H H1 H2:Hp}{a:Addr}(f:F1 H H1 a)(s:Same H1 H2):F1 H H2 a:=λb o h n=>s _ _ (f b o h n)
theorem Same.f1{H H1 H2:Hp}{a:Addr}(s:Same H H1)(f:F1 H1 H2 a):F1 H H2 a:=λb o h n=>f b o (s _ _ h) n
theorem F1.trans{H H1 H2:Hp}{a:Addr}(f:F1 H H1 a)(g:F1 H1 H2 a):F1 H H2 a:=λb o h n=>g b o (f b o h n) n
theorem zp7(H:Hp)(a:Addr)(o:HO):F1 H (upd H a o) a:=λb u h n=>by rw[zai n];exact h
noncomputable def qdh(K:qfa)(ad:Ad):Sp:=λvs H Q E=>∃(H0:Hp)(wk:Addr)(k:Int)(d:Addr)(ps:List Bytes)(m:MS)(dx lo le lc:Addr)(ers crs:List Addr)(c:Nat),vs=[.ref wk,.int c]/\WAt ad H0 H wk k d ps m dx lo le lc ers crs ∧
 match more c m.s with
 |.error v=>zaw K ad.R E v k
 |.ok q=>∀H',WAt ad H0 H' wk k d ps ⟨q.2,m.st⟩ dx lo le lc ers crs->F1 H H' wk->Q (.int q.1) H'
noncomputable def zun(K:qfa)(ad:Ad):Sp:=λvs H Q E=>∃(H0:Hp)(wk:Addr)(k:Int)(d:Addr)(ps:List Bytes)(m:MS)(dx lo le lc:Addr)(ers crs:List Addr),vs=[.ref wk]/\WAt ad H0 H wk k d ps m dx lo le lc ers crs/\m.s.n<=24 ∧
 match more 1 m.s with
 |.error v=>zaw K ad.R E v k
 |.ok q=>∀H' a,WAt ad H0 H' wk k d ps ⟨q.2,m.st⟩ dx lo le lc ers crs->F1 H H' wk->zb5 H' a (ofPlace q.1)->Q (.ref a) H'
noncomputable def spTell(ad:Ad):Sp:=λvs H Q _=>∃(H0:Hp)(wk:Addr)(k:Int)(d:Addr)(ps:List Bytes)(m:MS)(dx lo le lc:Addr)(ers crs:List Addr)(a b:Addr)(x y:Row),vs=[.ref wk,.ref a,.ref b]/\WAt ad H0 H wk k d ps m dx lo le lc ers crs/\zb5 H a x/\zb5 H b y/\WF x/\WF y/\m.s.eqs.length<=900000 ∧
 ∀H' a',WAt ad H0 H' wk k d ps ⟨alike x y m.s,m.st⟩ dx lo le lc (ers++[a']) crs->F1 H H' le->Q .non H'
noncomputable def qc9(K:qfa)(ad:Ad):Sp:=λvs H Q E=>∃(H0:Hp)(wk:Addr)(k:Int)(d:Addr)(ps:List Bytes)(m:MS)(dx lo le lc:Addr)(ers crs:List Addr)(x:Bytes)(known:Known),vs=[.ref wk,.str (S x)]/\WAt ad H0 H wk k d ps m dx lo le lc ers crs/\KnownAt ad H0 d known/\(∀q∈known,KOk q.2)/\m.s.n<=24 ∧
 match ps.idxOf? x with
 |some j=>∀a,zb5 H a (ofPlace j)->Q (.ref a) H
 |none=>match known.find? λq=>q.1 == x with
  |some q=>(match more q.2.places m.s with
   |.error v=>zaw K ad.R E v k
   |.ok z=>∀H' a,WAt ad H0 H' wk k d ps ⟨z.2,m.st⟩ dx lo le lc ers crs->F1 H H' wk->zb5 H' a (shift z.1 q.2.comes)->Q (.ref a) H')
  |none=>False
section
variable{P:Program}{w:World}{K:qfa}{mg:Str->Option Value}{base:Heap}{ad:Ad}
theorem zxx(T:Txt K mg ad):OkC P w K mg base 1 "Kind" ad.Kind ["self","of","comes","places"] (spKind ad):=by
 obtain⟨f,fd,M,F,hb⟩:=T.i_Kind
 refine⟨T.g_Kind,f,fd,M,hb,F.okX zsc (λvs H Q E h=>?_) (λcdv A outer s H vs Q E hr h=>?_)⟩
 ·obtain⟨p,dx,lo,c,n,rfl,_⟩:=h
  rfl
 ·obtain⟨p,dx,lo,c,n,rfl,hp,q⟩:=h
  refine⟨_,zad (zb7 (pv 0) (pv 1) rfl) (zad (zb7 (pv 0) (pv 2) rfl) (zaf (zb7 (pv 0) (pv 3) rfl))),?_⟩
  refine⟨_,rfl,_,rfl,p,ad.Kind,dx,_,rfl,hp,T.l_Kind,T.n_Kind_of,(by show 0<1000;decide),_,rfl,_,rfl,p,ad.Kind,dx,_,rfl,zac,T.l_Kind,T.n_Kind_comes,(by show 1<1000;decide),_,rfl,_,rfl,p,ad.Kind,dx,_,rfl,zac,T.l_Kind,T.n_Kind_places,(by show 2<1000;decide),?_⟩
  exact q _ zac λb o e nb=>by rw[zai nb,zai nb,zai nb];exact e
theorem qeh(T:Txt K mg ad):OkC P w K mg base 1 "Work" ad.Work ["self","at","known"] (spWork ad):=by
 obtain⟨f,fd,M,F,hb⟩:=T.i_Work
 refine⟨T.g_Work,f,fd,M,hb,F.okX zsb (λvs H Q E h=>?_) (λcdv A outer s H vs Q E hr h=>?_)⟩
 ·obtain⟨p,dx,d,k,rfl,_⟩:=h
  rfl
 ·obtain⟨p,dx,d,k,rfl,hp,q⟩:=h
  refine⟨_,zad (zb7 (pv 0) (pv 1) rfl) (zad (zb7 (pv 0) (pv 2) rfl) (zad (zb7 (pv 0) zju rfl) (zad (zb7 (pv 0) zan rfl) (zad (zb7 (pv 0) (zbm zae) rfl) (zaf (zb7 (pv 0) (zbm zae) rfl)))))),?_⟩
  refine⟨_,rfl,_,rfl,p,ad.Work,dx,_,rfl,hp,T.l_Work,T.n_Work_at,(by show 0<1000;decide),_,rfl,_,rfl,p,ad.Work,dx,_,rfl,zac,T.l_Work,T.n_Work_known,(by show 1<1000;decide),λlo n1=>?_⟩
  have p1:p≠lo:=zah zac n1
  refine⟨_,rfl,p,ad.Work,dx,_,rfl,(by rw[zai p1,zac]),T.l_Work,T.n_Work_own,(by show 2<1000;decide),_,rfl,p,ad.Work,dx,_,rfl,zac,T.l_Work,T.n_Work_used,(by show 3<1000;decide),(by show 0<=sizeLine;decide),λle n2=>?_⟩
  have p2:p≠le:=zah zac n2
  refine⟨_,rfl,p,ad.Work,dx,_,rfl,(by rw[zai p2,zac]),T.l_Work,T.n_Work_equations,(by show 4<1000;decide),(by show 0<=sizeLine;decide),λlc n3=>?_⟩
  have p3:p≠lc:=zah zac n3
  refine⟨_,rfl,p,ad.Work,dx,_,rfl,(by rw[zai p3,zac]),T.l_Work,T.n_Work_came,(by show 5<1000;decide),?_⟩
  rw[zai p1.symm,zai p1.symm]at n1
  rw[zai p2.symm,zai p2.symm]at n2
  have l12:lo≠le:=λz=>by rw[z,zac]at n2;cases n2
  rw[zai l12.symm,zai p2.symm,zai p2.symm]at n2
  rw[zai p3.symm]at n3
  have l23:le≠lc:=λz=>by rw[z,zac]at n3;cases n3
  rw[zai l23.symm,zai p3.symm,zai p3.symm]at n3
  have l13:lo≠lc:=λz=>by rw[z,zac]at n3;cases n3
  rw[zai l13.symm,zai p3.symm,zai p3.symm]at n3
  refine q lo le lc _ n1 n2 n3 l23 zac ?_ ?_ ?_ λb o e nb=>?_
  ·rw[zai p1.symm,zai l13,zai p1.symm,zai l12,zai p1.symm,zai p1.symm,zac]
  ·rw[zai p2.symm,zai l23,zai p2.symm,zac]
  ·rw[zai p3.symm,zac]
  ·rw[zai nb,zai (zah e n3),zai nb,zai (zah e n2),zai nb,zai nb,zai (zah e n1),zai nb,zai nb];exact e
theorem znw(T:Txt K mg ad):OkM P w K mg base 4 ad.Work "claim_places" ["self","count"] (qdh K ad):=by
 have X1:=zf4 (P:=P) (w:=w) (base:=base) T
 obtain⟨t1,hP⟩:=T.k_PLACES
 refine T.m_Work_claim_places.ok T.l_Work c_Work_claim_places (λvs H Q E h=>?_) (λf cdv A outer s H vs Q E hr h=>?_)
 ·obtain⟨H0,wk,k,d,ps,m,dx,lo,le,lc,ers,crs,c,rfl,_⟩:=h
  rfl
 ·obtain⟨H0,wk,k,d,ps,m,dx,lo,le,lc,ers,crs,c,rfl,W,q⟩:=h
  refine⟨_,zad (zao (i:=2) c_Work_claim_places.nd rfl (Or.inl rfl) (zas (pv 0) rfl)) (zad (za9 (zar znt (za8 zb8 (pv 2) (pv 1)) (zat (v:=.int 24) rfl hP ⟨_,rfl⟩) (zaz _)) (zaf (znr X1 hr zab (zas (pv 0) rfl))) zav)
   (zad (zb7 (pv 0) (za8 zb8 (pv 2) (pv 1)) rfl) (zaf (zaq (pv 2))))),?_⟩
  refine⟨_,rfl,wk,ad.Work,dx,_,_,rfl,W.ob,T.l_Work,T.n_Work_used,rfl,_,rfl,_,rfl,_,_,rfl,rfl,_,_,rfl,rfl,_,rfl,?_⟩
  refine zb3 (λc1=>?_) (λc1=>?_)
  ·have c1:(24:Int)<(m.s.n:Int)+(c:Int):=of_decide_eq_true c1
   have e:more c m.s=.error (-28):=by
    unfold more;rw[if_neg (by show ¬m.s.n+c<=24;lia)]
   rw[e]at q
   exact⟨_,rfl,wk,ad.Work,dx,_,_,rfl,W.ob,T.l_Work,T.n_Work_at,rfl,k,rfl,q⟩
  ·have c1:¬(24:Int)<(m.s.n:Int)+(c:Int):=of_decide_eq_false (qga.mpr c1)
   have e:more c m.s=.ok (m.s.n,{ m.s with n:=m.s.n+c }):=by
    unfold more;rw[if_pos (by show m.s.n+c<=24;lia)]
   rw[e]at q
   refine⟨_,rfl,_,rfl,_,_,rfl,rfl,_,rfl,wk,ad.Work,dx,_,rfl,W.ob,T.l_Work,T.n_Work_used,(by show 6<1000;decide),_,rfl,?_⟩
   obtain⟨W2,_⟩:=W.used (m.s.n+c)
   exact q _ W2 (zp7 _ _ _)
theorem zkx(T:Txt K mg ad):OkM P w K mg base 5 ad.Work "new_place" ["self"] (zun K ad):=by
 have O1:=znw (P:=P) (w:=w) (base:=base) T
 have O2:=ztk (P:=P) (w:=w) (base:=base) T
 refine T.m_Work_new_place.ok T.l_Work zjn (λvs H Q E h=>?_) (λf cdv A outer s H vs Q E hr h=>?_)
 ·obtain⟨H0,wk,k,d,ps,m,dx,lo,le,lc,ers,crs,rfl,_⟩:=h
  rfl
 ·obtain⟨H0,wk,k,d,ps,m,dx,lo,le,lc,ers,crs,rfl,W,h24,q⟩:=h
  refine⟨_,zaf (zaq (cN O2 (hr.mono (by decide)) zab (zaa (cM O1 hr zab (pv 0) (zaa zan zae)) zae))),?_⟩
  refine⟨_,rfl,wk,dx,_,rfl,W.ob,rfl,H0,wk,k,d,ps,m,dx,lo,le,lc,ers,crs,1,rfl,W,?_⟩
  cases e:more 1 m.s with
  |error v=>rw[e]at q;exact q
  |ok z=>
   rw[e]at q
   obtain⟨z1,z2,z3,z4⟩:=zgy e
   intro H1 W1 f1
   refine⟨z.1,rfl,by lia,λr H2 n2 s2 e2=>?_⟩
   rw[zjg (by lia)]at e2
   exact q H2 r (W1.toSame s2) (f1.same s2) e2
theorem zxi(T:Txt K mg ad):OkM P w K mg base 2 ad.Work "tell_alike" ["self","first","second"] (spTell ad):=by
 have O1:=zik (P:=P) (w:=w) (base:=base) T
 refine T.m_Work_tell_alike.ok T.l_Work ziw (λvs H Q E h=>?_) (λf cdv A outer s H vs Q E hr h=>?_)
 ·obtain⟨H0,wk,k,d,ps,m,dx,lo,le,lc,ers,crs,a,b,x,y,rfl,_⟩:=h
  rfl
 ·obtain⟨H0,wk,k,d,ps,m,dx,lo,le,lc,ers,crs,a,b,x,y,rfl,W,ha,hb,wx,wy,hl,q⟩:=h
  refine⟨_,zaf (zal (zhr qf1 qgc qgd zbo (zas (pv 0) rfl) (zaa (cN O1 hr zab (zaa (pv 1) (zaa (pv 2) zae))) zae))),?_⟩
  refine⟨_,rfl,wk,ad.Work,dx,_,_,rfl,W.ob,T.l_Work,T.n_Work_equations,rfl,.inl ⟨rfl,_,SqL.of W.eqs⟩,_,rfl,_,rfl,a,b,za6 x,za6 y,rfl,ha,hb,by rw[zbf wx];decide,λr H1 n1 s1 e1=>?_⟩
  rw[zoa wx wy]at e1
  have W1:=W.toSame s1
  have hlen:ers.length<=900000:=by have:=W.er.len;rw[qe9]at this;lia
  refine⟨le,_,_,rfl,rfl,W1.eqs,by rw[qe9];exact zhc (by lia),?_⟩
  obtain⟨W2,_⟩:=W1.tell e1 (ze1 wx (zbw _ wy))
  exact q _ r W2 (Same.f1 s1 (zp7 _ _ _))
theorem qa2(T:Txt K mg ad):OkM P w K mg base 5 ad.Work "product_named" ["self","name"] (qc9 K ad):=by
 have O1:=znw (P:=P) (w:=w) (base:=base) T
 have O2:=ztl (P:=P) (w:=w) (base:=base) T
 refine T.m_Work_product_named.ok T.l_Work c_Work_product_named (λvs H Q E h=>?_) (λf cdv A outer s H vs Q E hr h=>?_)
 ·obtain⟨H0,wk,k,d,ps,m,dx,lo,le,lc,ers,crs,x,known,rfl,_⟩:=h
  rfl
 ·obtain⟨H0,wk,k,d,ps,m,dx,lo,le,lc,ers,crs,x,known,rfl,W,hk,hko,h24,q⟩:=h
  have hu:=zpy hr
  refine⟨_,zad (za9 (zs8 (zm3 hu (pv 1) (zas (pv 0) rfl))) (zaf (zaq (zfl hu (zas (pv 0) rfl) (pv 1) (λ_ _=>rfl)))) zav)
   (zad (zao (i:=2) c_Work_product_named.nd rfl (Or.inl rfl) (zfl hu (zas (pv 0) rfl) (pv 1) (λ_ _=>rfl)))
   (zaf (zaq (cN O2 (hr.mono (by decide)) zab (zaa (zas (pv 2) rfl) (zaa (cM O1 hr zab (pv 0) (zaa (zas (pv 2) rfl) zae)) zae)))))),?_⟩
  obtain⟨okvs,o1,o2,o3⟩:=id W.own
  refine⟨_,rfl,_,rfl,wk,ad.Work,dx,_,_,rfl,W.ob,T.l_Work,T.n_Work_own,rfl,lo,_,rfl,DGet.k (k:=Sum.inr (S x)) o1,_,rfl,?_⟩
  have o3x:=o3 x
  cases ei:ps.idxOf? x with
  |some j=>
   rw[ei]at q o3x
   obtain⟨a,a1,a2⟩:=o3x
   rw[a1]
   exact⟨_,rfl,wk,ad.Work,dx,_,_,rfl,W.ob,T.l_Work,T.n_Work_own,rfl,_,rfl,lo,_,rfl,(by rw[<-a1];exact DGet.k (k:=Sum.inr (S x)) o1),q a a2⟩
  |none=>
   rw[ei]at q o3x
   rw[o3x]
   cases ef:known.find? λq=>q.1 == x with
   |none=>rw[ef]at q;exact q.elim
   |some p=>
    rw[ef]at q
    obtain⟨kvs,a,h1,h2,h3⟩:=hk.get ef
    have kok:=hko p (qhe ef)
    have hd:=W.same _ _ h1
    obtain⟨kdx,klo,kc,ors,k1,k2,k3,k4⟩:=h3.same W.same
    refine⟨_,rfl,wk,ad.Work,dx,_,_,rfl,W.ob,T.l_Work,T.n_Work_known,rfl,_,rfl,d,_,rfl,(by rw[<-h2];exact DGet.k (k:=Sum.inr (S x)) hd),?_⟩
    refine⟨_,rfl,a,ad.Kind,kdx,_,_,rfl,k1,T.l_Kind,T.n_Kind_comes,rfl,?_⟩
    refine⟨_,rfl,wk,dx,_,rfl,W.ob,rfl,_,rfl,a,ad.Kind,kdx,_,_,rfl,k1,T.l_Kind,T.n_Kind_places,rfl,H0,wk,k,d,ps,m,dx,lo,le,lc,ers,crs,p.2.places,rfl,W,?_⟩
    replace q:(match more p.2.places m.s with
     |.error v=>zaw K ad.R E v k
     |.ok z=>∀H' a,WAt ad H0 H' wk k d ps ⟨z.2,m.st⟩ dx lo le lc ers crs->F1 H H' wk->zb5 H' a (shift z.1 p.2.comes)->Q (.ref a) H'):=q
    cases e:more p.2.places m.s with
    |error v=>rw[e]at q;exact q
    |ok z=>
     rw[e]at q
     obtain⟨z1,z2,z3,z4⟩:=zgy e
     intro H1 W1 f1
     have kr:=f1.keepR (zil W.ob)
     refine⟨kc,za6 p.2.comes,z.1,rfl,kr _ _ kok.wc k4,by lia,by rw[zbf kok.wc];decide,λr H2 n2 s2 e2=>?_⟩
     rw[zc4 kok.wc,zb9 kok.wc,zis kok.wc (by lia)]at e2
     exact q H2 r (W1.toSame s2) (f1.same s2) e2
end
def sxW:Sx->Str
 |.zero=>"zero"
 |.number=>"number"
 |.name _=>"name"
 |.call _ _=>"call"
 |.pw _=>"^"
 |.times=>"*"
 |.over=>"/"
 |.alike=>"alike"
 |.compare=>"compare"
noncomputable def sxN:Sx->Str
 |.name x=>S x
 |.call f _=>S f
 |_=>""
def sxI:Sx->Int
 |.call _ n=>n
 |.pw k=>k
 |_=>0
noncomputable def sxV(x:Sx):List V:=[.str (sxW x),.str (sxN x),.int (sxI x)]
theorem Rows.last{H:Hp}:∀{ss:List (List Int)}{rs:List Addr}{s:List Int},Rows H rs (ss++[s])->∃qs q,rs=qs++[q]/\Rows H qs ss/\LI H q s
 |[],_,_,.cons h .nil=>⟨[],_,rfl,.nil,h⟩
 |_::ss,_,_,.cons h t=>by
  obtain⟨qs,q,rfl,a,b⟩:=Rows.last (ss:=ss) t
  exact⟨_::qs,q,rfl,.cons h a,b⟩
section
variable{ad:Ad}{H0 H:Hp}{wk:Addr}{k:Int}{d:Addr}{ps:List Bytes}{m:MS}{dx lo le lc:Addr}{ers crs:List Addr}
theorem WAt.push(W:WAt ad H0 H wk k d ps m dx lo le lc ers crs){a:Addr}{x:Row}(ha:zb5 H a x)(wx:WF x):WAt ad H0 (upd H lc (.lst (crs.map V.ref++[.ref a]))) wk k d ps ⟨m.s,m.st++[x]⟩ dx lo le lc ers (crs++[a]):=by
 have:=(W.put (crs':=crs++[a]) (st':=m.st++[x]) (by rw[qfg];exact Rows.push W.cr ha) (λz hz=>by
  rcases qfj.mp hz with hz|hz
  ·exact W.wc z hz
  ·rw[qfq.mp hz];exact wx)).1
 rw[qfg]at this
 exact this
theorem WAt.pop(W:WAt ad H0 H wk k d ps m dx lo le lc ers crs){r:List Row}{x:Row}(e:m.st=r++[x]):∃cr p,crs=cr++[p]/\zb5 H p x/\(crs.map V.ref)[(crs.map V.ref).length - 1]?=some (.ref p) ∧
  WAt ad H0 (upd H lc (.lst (crs.map V.ref).dropLast)) wk k d ps ⟨m.s,r⟩ dx lo le lc ers cr/\zmm H (upd H lc (.lst (crs.map V.ref).dropLast)):=by
 have hc:=W.cr
 rw[e,qfg]at hc
 obtain⟨cr,p,rfl,h1,h2⟩:=Rows.last hc
 refine⟨cr,p,rfl,h2,by simp,?_⟩
 have:=W.put (crs':=cr) (st':=r) h1 (λz hz=>W.wc z (by rw[e];exact qgq _ hz))
 rw[show ((cr++[p]).map V.ref).dropLast=cr.map V.ref by rw[qfg];simp]
 exact this
theorem WAt.clen(W:WAt ad H0 H wk k d ps m dx lo le lc ers crs):crs.length=m.st.length:=by have:=W.cr.len;rw[qe9]at this;exact this
end
theorem qdr{m:MS}{f:List Row->Row->Row->MR}(h:zut m f≠.error 0):∃r a b,m.st=r++[a]++[b]/\zut m f=f r a b:=by
 unfold zut at h ⊢
 split
 ·next y x r hr=>exact⟨r.reverse,x,y,rev2 hr,rfl⟩
 ·next hr=>
  exfalso;apply h
  split
  ·next y x r hr'=>exact absurd hr' (hr _ _ _)
  ·rfl
def After(K:qfa)(ad:Ad)(H0:Hp)(wk:Addr)(k:Int)(d:Addr)(ps:List Bytes)(dx lo le:Addr)(Q:VK)(E:XK):MR->Prop
 |.error v=>v≠0/\zaw K ad.R E v k
 |.ok m=>∀H' lc ers crs,WAt ad H0 H' wk k d ps m dx lo le lc ers crs->Q .non H'
theorem After.ne{K:qfa}{ad:Ad}{H0:Hp}{wk:Addr}{k:Int}{d:Addr}{ps:List Bytes}{dx lo le:Addr}{Q:VK}{E:XK}{r:MR}(h:After K ad H0 wk k d ps dx lo le Q E r):r≠.error 0:=by
 intro z;subst z;exact h.1 rfl
def qdj(K:qfa)(ad:Ad):Sp:=λvs H Q E=>∃(H0:Hp)(wk:Addr)(k:Int)(d:Addr)(ps:List Bytes)(m:MS)(dx lo le lc:Addr)(ers crs:List Addr)(x:Sx),vs=[.ref wk,.str (sxW x)]/\WAt ad H0 H wk k d ps m dx lo le lc ers crs/\(x=.times\/x=.over\/x=.alike\/x=.compare) ∧
 m.s.eqs.length<=800000/\m.st.length<=100000/\After K ad H0 wk k d ps dx lo le Q E (zbd [] ps x m)
def qdi(K:qfa)(ad:Ad):Sp:=λvs H Q E=>∃(H0:Hp)(wk:Addr)(k:Int)(d:Addr)(ps:List Bytes)(m:MS)(dx lo le lc:Addr)(ers crs:List Addr)(q:Addr)(kd:zhb),vs=[.ref wk,.ref q]/\WAt ad H0 H wk k d ps m dx lo le lc ers crs/\KindAt ad H0 q kd/\KOk kd/\kd.of.length<=6/\kd.of.length<=m.st.length ∧
 m.s.n<=24/\m.s.eqs.length<=800000/\m.st.length<=100000/\After K ad H0 wk k d ps dx lo le Q E (match more kd.places m.s with
   |.error v=>.error v
   |.ok z=>.ok ⟨zdf (m.st.drop (m.st.length - kd.of.length)) kd.of z.1 z.2,m.st.take (m.st.length - kd.of.length)++[shift z.1 kd.comes]⟩)
def spGo(K:qfa)(ad:Ad):Sp:=λvs H Q E=>∃(H0:Hp)(wk:Addr)(k:Int)(d:Addr)(ps:List Bytes)(m:MS)(dx lo le lc:Addr)(ers crs:List Addr)(x:Sx)(t:Addr)(known:Known),vs=[.ref wk,.ref t]/\WAt ad H0 H wk k d ps m dx lo le lc ers crs/\SqT K H0 t (sxV x)/\KnownAt ad H0 d known/\(∀q∈known,KOk q.2)/\(∀q∈known,q.2.of.length<=6) ∧
 m.s.n<=24/\m.s.eqs.length<=800000/\m.st.length<=100000/\(-1000<sxI x/\sxI x<1000000)/\After K ad H0 wk k d ps dx lo le Q E (zbd known ps x m)
section
variable{P:Program}{w:World}{K:qfa}{mg:Str->Option Value}{base:Heap}{ad:Ad}
theorem qa8(T:Txt K mg ad):OkM P w K mg base 5 ad.Work "bring_together" ["self","action"] (qdj K ad):=by
 have O1:=znx (P:=P) (w:=w) (base:=base) T
 have O2:=ztj (P:=P) (w:=w) (base:=base) T
 have O3:=zik (P:=P) (w:=w) (base:=base) T
 have O4:=zxi (P:=P) (w:=w) (base:=base) T
 refine T.m_Work_bring_together.ok T.l_Work c_Work_bring_together (λvs H Q E h=>?_) (λf cdv A outer s H vs Q E hr h=>?_)
 ·obtain⟨H0,wk,k,d,ps,m,dx,lo,le,lc,ers,crs,x,rfl,_⟩:=h
  rfl
 ·obtain⟨H0,wk,k,d,ps,m,dx,lo,le,lc,ers,crs,x,rfl,W,hx,he,hs,q⟩:=h
  have h1:Room 1 _:=hr.mono (by decide)
  have h2:Room 2 _:=hr.mono (by decide)
  refine⟨_,zad (zao (i:=2) c_Work_bring_together.nd rfl (Or.inl rfl) (zxc qf1 qi3 qi4 zx4 (zas (pv 0) rfl)))
   (zad (zao (i:=3) c_Work_bring_together.nd rfl (Or.inl rfl) (zxc qf1 qi3 qi4 zx4 (zas (pv 0) rfl)))
   (zaf (za9 (zar zej (pv 1) zam (zaz _))
    (zaf (zal (zhr qf1 qgc qgd zbo (zas (pv 0) rfl) (zaa (cN O1 hr zab (zaa (cN O2 h1 zab (zaa (pv 3) (zaa (pv 2) zae))) (zaa (zas (pv 0) rfl) zae))) zae))))
    (zaf (za9 (zar zej (pv 1) zam (zaz _))
     (zaf (zal (zhr qf1 qgc qgd zbo (zas (pv 0) rfl) (zaa (cN O1 hr zab (zaa (cN O3 h1 zab (zaa (pv 3) (zaa (pv 2) zae))) (zaa (zas (pv 0) rfl) zae))) zae))))
     (zad (zal (cM O4 h2 zab (pv 0) (zaa (pv 3) (zaa (pv 2) zae))))
      (zaf (za9 (zar zej (pv 1) zam (zaz _))
       (zaf (zal (zhr qf1 qgc qgd zbo (zas (pv 0) rfl) (zaa (pv 3) zae))))
       zav)))))))),?_⟩
  have two:∃r a b,m.st=r++[a]++[b]:=by
   have hne:=q.ne
   rcases hx with rfl|rfl|rfl|rfl <;> (simp only[zbd]at hne;obtain⟨r,a,b,h,_⟩:=qdr hne;exact⟨r,a,b,h⟩)
  obtain⟨r,a,b,est⟩:=two
  have em:m=⟨m.s,r++[a]++[b]⟩:=by rw[<-est]
  have wa:WF a:=W.wc a (by rw[est];simp)
  have wb:WF b:=W.wc b (by rw[est];simp)
  obtain⟨cr1,p2,rfl,hp2,g2,W1,kr1⟩:=W.pop est
  obtain⟨cr,p1,rfl,hp1,g1,W2,kr2⟩:=W1.pop (r:=r) (x:=a) rfl
  have hp2':=kr2 _ _ wb (kr1 _ _ wb hp2)
  have hp1':=kr2 _ _ wa hp1
  refine⟨_,rfl,wk,ad.Work,dx,_,_,rfl,W.ob,T.l_Work,T.n_Work_came,rfl,.inl ⟨rfl,_,SqL.of W.came⟩,lc,_,_,rfl,rfl,W.came,g2,?_⟩
  refine⟨_,rfl,wk,ad.Work,dx,_,_,rfl,W1.ob,T.l_Work,T.n_Work_came,rfl,.inl ⟨rfl,_,SqL.of W1.came⟩,lc,_,_,rfl,rfl,W1.came,g1,?_⟩
  have hlen:r.length<=100000:=by rw[est]at hs;simp at hs;lia
  rw[em]at q
  rcases hx with rfl|rfl|rfl|rfl
  ·simp only[zbd,zeu]at q
   refine⟨_,rfl,rfl,_,rfl,zb3 (λ_=>?_) (λh=>absurd (by decide +kernel) h)⟩
   refine⟨_,rfl,wk,ad.Work,dx,_,_,rfl,W2.ob,T.l_Work,T.n_Work_came,rfl,.inl ⟨rfl,_,SqL.of W2.came⟩,_,rfl,_,rfl,p1,p2,za6 a,za6 b,rfl,hp1',hp2',by rw[zbf wa];decide,λr1 H1 n1 s1 e1=>?_⟩
   rw[zn9 wa wb]at e1
   have W3:=W2.toSame s1
   refine⟨_,rfl,wk,ad.Work,dx,_,_,rfl,W3.ob,T.l_Work,T.n_Work_at,rfl,r1,mul a b,k,rfl,e1,ze1 wa wb,λz=>?_,λz=>?_⟩
   ·rw[if_pos z]at q
    refine⟨lc,_,_,rfl,rfl,W3.came,by rw[qe9,W3.clen];exact zhc (by show r.length<=_;lia),?_⟩
    exact q _ _ _ _ (W3.push e1 (ze1 wa wb))
   ·rw[if_neg (by rw[z];decide)]at q
    exact q.2
  ·simp only[zbd,zeu]at q
   refine⟨_,rfl,rfl,_,rfl,zb3 (λh=>absurd h (by decide +kernel)) (λ_=>?_)⟩
   refine⟨_,rfl,rfl,_,rfl,zb3 (λ_=>?_) (λh=>absurd (by decide +kernel) h)⟩
   refine⟨_,rfl,wk,ad.Work,dx,_,_,rfl,W2.ob,T.l_Work,T.n_Work_came,rfl,.inl ⟨rfl,_,SqL.of W2.came⟩,_,rfl,_,rfl,p1,p2,za6 a,za6 b,rfl,hp1',hp2',by rw[zbf wa];decide,λr1 H1 n1 s1 e1=>?_⟩
   rw[zoa wa wb]at e1
   have W3:=W2.toSame s1
   have wq:=ze1 wa (zbw (-1) wb)
   refine⟨_,rfl,wk,ad.Work,dx,_,_,rfl,W3.ob,T.l_Work,T.n_Work_at,rfl,r1,_,k,rfl,e1,wq,λz=>?_,λz=>?_⟩
   ·rw[if_pos z]at q
    refine⟨lc,_,_,rfl,rfl,W3.came,by rw[qe9,W3.clen];exact zhc (by show r.length<=_;lia),?_⟩
    exact q _ _ _ _ (W3.push e1 wq)
   ·rw[if_neg (by rw[z];decide)]at q
    exact q.2
  ·simp only[zbd,zeu]at q
   refine⟨_,rfl,rfl,_,rfl,zb3 (λh=>absurd h (by decide +kernel)) (λ_=>?_)⟩
   refine⟨_,rfl,rfl,_,rfl,zb3 (λh=>absurd h (by decide +kernel)) (λ_=>?_)⟩
   refine⟨_,rfl,wk,dx,_,rfl,W2.ob,rfl,_,rfl,_,rfl,H0,wk,k,d,ps,_,dx,lo,le,lc,_,_,p1,p2,a,b,rfl,W2,hp1',hp2',wa,wb,by show m.s.eqs.length<=_;lia,λH1 a' W3 f1=>?_⟩
   refine⟨_,rfl,rfl,_,rfl,zb3 (λ_=>?_) (λh=>absurd (by decide +kernel) h)⟩
   have hp1'':=f1.keepR (zgx W2.eqs) _ _ wa hp1'
   refine⟨_,rfl,wk,ad.Work,dx,_,_,rfl,W3.ob,T.l_Work,T.n_Work_came,rfl,.inl ⟨rfl,_,SqL.of W3.came⟩,_,rfl,?_⟩
   refine⟨lc,_,_,rfl,rfl,W3.came,by rw[qe9,W3.clen];exact zhc (by show r.length<=_;lia),?_⟩
   exact q _ _ _ _ (W3.push hp1'' wa)
  ·simp only[zbd,zeu]at q
   refine⟨_,rfl,rfl,_,rfl,zb3 (λh=>absurd h (by decide +kernel)) (λ_=>?_)⟩
   refine⟨_,rfl,rfl,_,rfl,zb3 (λh=>absurd h (by decide +kernel)) (λ_=>?_)⟩
   refine⟨_,rfl,wk,dx,_,rfl,W2.ob,rfl,_,rfl,_,rfl,H0,wk,k,d,ps,_,dx,lo,le,lc,_,_,p1,p2,a,b,rfl,W2,hp1',hp2',wa,wb,by show m.s.eqs.length<=_;lia,λH1 a' W3 f1=>?_⟩
   refine⟨_,rfl,rfl,_,rfl,zb3 (λh=>absurd h (by decide +kernel)) (λ_=>?_)⟩
   exact q _ _ _ _ W3
end
theorem qex(xs:List Addr)(k:Nat):zqa (xs.map V.ref) none (some (k:Int))=(xs.take k).map V.ref:=by
 unfold zqa
 rw[HT.sIx_none,HT.sIx_nat,qhu,Nat.sub_zero,qe9,<-qja]
 congr 1
 by_cases h:k<=xs.length
 ·rw[qh4 h]
 ·rw[qih (by lia),qf4 (by lia),qf4 (by lia)]
theorem qey(xs:List Addr)(k:Nat):zqa (xs.map V.ref) (some (k:Int)) none=(xs.drop k).map V.ref:=by
 unfold zqa
 rw[HT.sIx_none,HT.sIx_nat,qe9,<-qiq,<-qja]
 congr 1
 by_cases h:k<=xs.length
 ·rw[qh4 h,qf4 (by simp)]
 ·rw[qih (by lia),qho (by lia),qho (by lia)];simp
theorem zr4{a o:List Row}{k i:Nat}{s:Kp169.St}{x y:Row}(hx:a[i]?=some x)(hy:o[i]?=some y):zdf (a.take (i+1)) (o.take (i+1)) k s=alike x (shift k y) (zdf (a.take i) (o.take i) k s):=by
 unfold zdf
 have e:qh5 (a.take (i+1)) (o.take (i+1))=qh5 (a.take i) (o.take i)++[(x,y)]:=by
  show qfs Prod.mk _ _=qfs Prod.mk _ _++_
  rw[<-List.take_zipWith,<-List.take_zipWith,qgi,show (qfs Prod.mk a o)[i]?=some (x,y) from qid.mpr ⟨hx,hy⟩];rfl
 rw[e,qh6];rfl
theorem zs5{x y:V}{H:Hp}{Q:VK}{i j n:Int}(hx:x=.int i)(hy:y=.int j)(e:i - j=n)(h:Q (V.int n) H):rI0 (λi j=>V.int (i - j)) x y H Q:=by subst e;exact⟨i,j,hx,hy,h⟩
section
variable{P:Program}{w:World}{K:qfa}{mg:Str->Option Value}{base:Heap}{ad:Ad}
theorem qa7(T:Txt K mg ad):OkM P w K mg base 5 ad.Work "call" ["self","kind"] (qdi K ad):=by
 have O1:=znw (P:=P) (w:=w) (base:=base) T
 have O2:=ztl (P:=P) (w:=w) (base:=base) T
 have O4:=zxi (P:=P) (w:=w) (base:=base) T
 refine T.m_Work_call.ok T.l_Work c_Work_call (λvs H Q E h=>?_) (λf cdv A outer s H vs Q E hr h=>?_)
 ·obtain⟨H0,wk,k,d,ps,m,dx,lo,le,lc,ers,crs,q,kd,rfl,_⟩:=h
  rfl
 ·obtain⟨H0,wk,k,d,ps,m,dx,lo,le,lc,ers,crs,qk,kd,rfl,W,hk,kok,h6,hst,h24,he,hs,q⟩:=h
  have h2:Room 2 _:=hr.mono (by decide)
  obtain⟨kdx,klo,kc,ors,k1,k2,k3,k4⟩:=hk
  have olen:ors.length=kd.of.length:=by have:=k3.len;rw[qe9]at this;exact this
  refine⟨_,zad (zao (i:=2) c_Work_call.nd rfl (Or.inl rfl) (cM O1 hr zab (pv 0) (zaa (zas (pv 1) rfl) zae)))
   (zad (zao (i:=3) c_Work_call.nd rfl (Or.inl rfl) (za8 zkt (za0 za3 rfl T.z_len (by decide +kernel) (zaa (zas (pv 0) rfl) zae)) (za0 za3 rfl T.z_len (by decide +kernel) (zaa (zas (pv 1) rfl) zae))))
   (zad (zei zbk rfl (ztb rfl T.z_zip (zaa (zcx zgo (zas (pv 0) rfl) (zcu (pv 3)) zgq) (zaa (zas (pv 1) rfl) zae))) (zjd K 4 5 rfl c_Work_call.nd rfl rfl rfl rfl)
    (zaf (zal (cM O4 h2 zab (pv 0) (zaa (pv 4) (zaa (cN O2 h2 zab (zaa (pv 5) (zaa (pv 2) zae))) zae))))))
   (zaf (zb7 (pv 0) (za8 zdr (zcx zgo (zas (pv 0) rfl) zgq (zcu (pv 3))) (zbm (zaa (cN O2 h2 zab (zaa (zas (pv 1) rfl) (zaa (pv 2) zae))) zae))) rfl)))),?_⟩
  refine⟨_,rfl,wk,dx,_,rfl,W.ob,rfl,_,rfl,qk,ad.Kind,kdx,_,_,rfl,W.same _ _ k1,T.l_Kind,T.n_Kind_places,rfl,H0,wk,k,d,ps,m,dx,lo,le,lc,ers,crs,kd.places,rfl,W,?_⟩
  cases e:more kd.places m.s with
  |error v=>rw[e]at q;exact q.2
  |ok z=>
   rw[e]at q
   obtain⟨z1,z2,z3,z4⟩:=zgy e
   intro H1 W1 f1
   have clen:=W1.clen
   dsimp only at clen
   refine⟨_,rfl,wk,ad.Work,dx,_,_,rfl,W1.ob,T.l_Work,T.n_Work_came,rfl,lc,_,rfl,.inl (SqL.of W1.came),_,rfl,qk,ad.Kind,kdx,_,_,rfl,W1.same _ _ k1,T.l_Kind,T.n_Kind_of,rfl,klo,_,rfl,.inl (SqL.of (W1.same _ _ k2)),zs5 rfl rfl (n:=((m.st.length - kd.of.length:Nat):Int)) ?_ ?_⟩
   ·rw[qe9,qe9,clen,olen];lia
   have hd:m.st.drop (m.st.length - kd.of.length)=m.st.drop (m.st.length - kd.of.length):=rfl
   generalize hn:m.st.length - kd.of.length=n0 at *
   refine⟨_,rfl,wk,ad.Work,dx,_,_,rfl,W1.ob,T.l_Work,T.n_Work_came,rfl,_,rfl,_,rfl,lc,_,rfl,SqL.of W1.came,λD nD=>?_⟩
   rw[qey]
   have sD:=zaj (o:=HO.lst ((crs.drop n0).map V.ref)) nD
   have W2:=W1.toSame sD
   refine⟨_,rfl,qk,ad.Kind,kdx,_,_,rfl,W2.same _ _ k1,T.l_Kind,T.n_Kind_of,rfl,D,klo,_,_,rfl,SqL.of zac,SqL.of (W2.same _ _ k2),zyr (xs:=(crs.drop n0).map V.ref) (ys:=ors.map V.ref) (λi σ H'=>∃(ers':List Addr)(v4 v5:Option V),σ=[some (.ref wk),some (.ref qk),some (.int z.1),some (.int n0),v4,v5] ∧
    WAt ad H0 H' wk k d ps ⟨zdf ((m.st.drop n0).take i) (kd.of.take i) z.1 z.2,m.st⟩ dx lo le lc ers' crs/\F1 (upd H1 D (.lst ((crs.drop n0).map V.ref))) H' le) ?_ ?_ ?_ ?_⟩
   ·exact⟨ers,none,none,rfl,W2,λb o h _=>h⟩
   ·rintro i σ H' _ ⟨ers',v4,v5,_,W3,f3⟩
    exact⟨SqL.of (f3 _ _ zac (zah W1.eqs nD).symm),SqL.of (W3.same _ _ k2)⟩
   ·rintro i x y T' σ H' hx1 hy1 nT ⟨ers',v4,v5,rfl,W3,f3⟩
    rw[qfe]at hx1 hy1
    obtain⟨g,hg,rfl⟩:=qff.mp hx1
    obtain⟨p,hp,rfl⟩:=qff.mp hy1
    have sT:=zaj (o:=HO.tup [V.ref g,V.ref p]) nT
    have W4:=W3.toSame sT
    have hR:=Rows.drop n0 W4.cr
    obtain⟨sg,hsg,eg⟩:=hR.get hg
    rw[<-qiq,qfe]at hsg
    obtain⟨rg,hrg,rfl⟩:=qff.mp hsg
    obtain⟨sp,hsp,ep⟩:=(k3.same W4.same).get hp
    rw[qfe]at hsp
    obtain⟨rp,hrp,rfl⟩:=qff.mp hsp
    have wg:WF rg:=W.wc rg (qfv (qfw hrg))
    have wp:WF rp:=kok.wo rp (qfw hrp)
    refine⟨T',_,rfl,.inl (.inl zac),rfl,_,_,rfl,_,_,rfl,rfl,?_⟩
    refine⟨_,rfl,wk,dx,_,rfl,W4.ob,rfl,_,rfl,_,rfl,_,rfl,p,za6 rp,z.1,rfl,ep,by lia,by rw[zbf wp];decide,λr1 H5 n5 s5 e5=>?_⟩
    rw[zc4 wp,zb9 wp,zis wp (by lia)]at e5
    have W5:=W4.toSame s5
    refine⟨H0,wk,k,d,ps,_,dx,lo,le,lc,_,_,g,r1,rg,shift z.1 rp,rfl,W5,s5 _ _ eg,e5,wg,zfz _ wp,?_,λH6 a' W6 f6=>?_⟩
    ·show (zdf _ _ _ _).eqs.length<=_
     rw[zf8,z3,qfb,qkg,qfx,qfx];lia
    ·refine⟨ers'++[a'],_,_,rfl,?_,?_⟩
     ·rw[zr4 hrg hrp];exact W6
     ·exact f3.trans (Same.f1 (sT.trans s5) f6)
   ·rintro σ H' ⟨ers',v4,v5,rfl,W3,f3⟩
    have hmin:min ((crs.drop n0).map V.ref).length (ors.map V.ref).length=kd.of.length:=by
     rw[qe9,qe9,qgj,clen,olen];lia
    rw[hmin,qf4 (by rw[qgj];lia),qf4 (qfh _)]at W3
    refine⟨_,rfl,wk,ad.Work,dx,_,_,rfl,W3.ob,T.l_Work,T.n_Work_came,rfl,_,rfl,_,rfl,lc,_,rfl,SqL.of W3.came,λr1 n1=>?_⟩
    rw[qex]
    have s1:=zaj (o:=HO.lst ((crs.take n0).map V.ref)) n1
    have W4:=W3.toSame s1
    refine⟨_,rfl,qk,ad.Kind,kdx,_,_,rfl,W4.same _ _ k1,T.l_Kind,T.n_Kind_comes,rfl,_,rfl,kc,za6 kd.comes,z.1,rfl,W4.same _ _ k4,by lia,by rw[zbf kok.wc];decide,λr2 H5 n5 s5 e5=>?_⟩
    rw[zc4 kok.wc,zb9 kok.wc,zis kok.wc (by lia)]at e5
    refine⟨(by show 1<=sizeLine;decide),λr3 n3=>?_⟩
    have s3:=zaj (o:=HO.lst [V.ref r2]) n3
    refine⟨r1,r3,_,_,rfl,rfl,s3 _ _ (s5 _ _ zac),zac,?_,λr4 n4=>?_⟩
    ·rw[qe9,qfx];exact big (by simp;lia)
    have s4:=zaj (o:=HO.lst ((crs.take n0).map V.ref++[V.ref r2])) n4
    have W7:=W4.toSame (s5.trans (s3.trans s4))
    refine⟨_,rfl,wk,ad.Work,dx,_,rfl,W7.ob,T.l_Work,T.n_Work_came,(by show 6<1000;decide),?_⟩
    have h0:H0 r4=none:=(W4.same.trans (s5.trans s3)).free n4
    have wsh:WF (shift z.1 kd.comes):=zfz _ kok.wc
    have W8:=(W7.anew (lc':=r4) (crs':=crs.take n0++[r2]) (st':=m.st.take n0++[shift z.1 kd.comes]) h0 (zah (s3 _ _ (s5 _ _ W4.eqs)) n4) (by rw[zac,qfg];rfl)
     (by rw[qfg];exact Rows.push (by have:=Rows.take n0 W7.cr;rw[<-qja]at this;exact this) (s4 _ _ (s3 _ _ e5))) (λy hy=>by
      rcases qfj.mp hy with hy|hy
      ·exact W.wc y (qg4 hy)
      ·rw[qfq.mp hy];exact wsh)).1
    exact q _ _ _ _ W8
theorem ok_go(T:Txt K mg ad):OkM P w K mg base 6 ad.Work "go_through" ["self","step"] (spGo K ad):=by
 have O1:=zkx (P:=P) (w:=w) (base:=base) T
 have O2:=zij (P:=P) (w:=w) (base:=base) T
 have O3:=qa2 (P:=P) (w:=w) (base:=base) T
 have O4:=qa7 (P:=P) (w:=w) (base:=base) T
 have O5:=znx (P:=P) (w:=w) (base:=base) T
 have O6:=zkw (P:=P) (w:=w) (base:=base) T
 have O7:=qa8 (P:=P) (w:=w) (base:=base) T
 refine T.m_Work_go_through.ok T.l_Work c_Work_go_through (λvs H Q E h=>?_) (λf cdv A outer s H vs Q E hr h=>?_)
 ·obtain⟨H0,wk,k,d,ps,m,dx,lo,le,lc,ers,crs,x,t,known,rfl,_⟩:=h
  rfl
 ·obtain⟨H0,wk,k,d,ps,m,dx,lo,le,lc,ers,crs,x,t,known,rfl,W,ht,hk,kok,h6,h24,he,hs,hi,q⟩:=h
  have h1:Room 1 _:=hr.mono (by decide)
  have h4:Room 4 _:=hr.mono (by decide)
  have hu:=zpy hr
  have hne:=q.ne
  refine⟨_,zad (zao (i:=2) c_Work_go_through.nd rfl (Or.inl rfl) (zdp ze5 (pv 1) zan (λ_ _=>rfl)))
   (zaf (za9 (zar zej (pv 2) zam (zaz _))
    (zaf (zal (zhr qf1 qgc qgd zbo (zas (pv 0) rfl) (zaa (cM0 O1 hr zab (pv 0)) zae))))
    (zaf (za9 (zar zej (pv 2) zam (zaz _))
     (zaf (zal (zhr qf1 qgc qgd zbo (zas (pv 0) rfl) (zaa (cN0 O2 h1 zab) zae))))
     (zaf (za9 (zar zej (pv 2) zam (zaz _))
      (zaf (zal (zhr qf1 qgc qgd zbo (zas (pv 0) rfl) (zaa (cM O3 hr zab (pv 0) (zaa (zdp ze5 (pv 1) zan (λ_ _=>rfl)) zae)) zae))))
      (zaf (za9 (zar zej (pv 2) zam (zaz _))
       (zaf (zal (cM O4 hr zab (pv 0) (zaa (zfl hu (zas (pv 0) rfl) (zdp ze5 (pv 1) zan (λ_ _=>rfl)) (λ_ _=>rfl)) zae))))
       (zaf (za9 (zar zej (pv 2) zam (zaz _))
        (zaf (zal (zhr qf1 qgc qgd zbo (zas (pv 0) rfl) (zaa (cN O5 h4 zab (zaa (cN O6 h1 zab (zaa (zxc qf1 qi3 qi4 zx4 (zas (pv 0) rfl)) (zaa (zdp ze5 (pv 1) zan (λ_ _=>rfl)) zae))) (zaa (zas (pv 0) rfl) zae))) zae))))
        (zaf (zal (cM O7 hr zab (pv 0) (zaa (pv 2) zae)))))))))))))),?_⟩
  have htH:=W.same.tup ht
  have hlen:=W.clen
  refine⟨_,rfl,t,_,_,_,rfl,rfl,htH,rfl,?_⟩
  have rest:(x=.times\/x=.over\/x=.alike\/x=.compare)->After K ad H0 wk k d ps dx lo le Q E (zbd [] ps x m):=λhx=>by
   rcases hx with rfl|rfl|rfl|rfl <;> exact q
  cases x with
  |zero=>
   refine⟨_,rfl,rfl,_,rfl,zb3 (λ_=>?_) (λh=>absurd (by simp only[sxW];decide +kernel) h)⟩
   refine⟨_,rfl,wk,ad.Work,dx,_,_,rfl,W.ob,T.l_Work,T.n_Work_came,rfl,.inl ⟨rfl,_,SqL.of W.came⟩,_,rfl,wk,dx,_,rfl,W.ob,rfl,H0,wk,k,d,ps,m,dx,lo,le,lc,ers,crs,rfl,W,h24,?_⟩
   simp only[zbd]at q
   cases e:more 1 m.s with
   |error v=>rw[e]at q;exact q.2
   |ok z=>
    rw[e]at q
    intro H1 a W1 f1 ha
    refine⟨lc,_,_,rfl,rfl,W1.came,by rw[qe9,hlen];exact zhc (by lia),?_⟩
    exact q _ _ _ _ (W1.push ha (zau _))
  |number=>
   refine⟨_,rfl,rfl,_,rfl,zb3 (λh=>absurd (of_decide_eq_true h) (by simp only[sxW];decide +kernel)) (λ_=>?_)⟩
   refine⟨_,rfl,rfl,_,rfl,zb3 (λ_=>?_) (λh=>absurd (by simp only[sxW];decide +kernel) h)⟩
   refine⟨_,rfl,wk,ad.Work,dx,_,_,rfl,W.ob,T.l_Work,T.n_Work_came,rfl,.inl ⟨rfl,_,SqL.of W.came⟩,rfl,λr H1 n1 s1 e1=>?_⟩
   simp only[zbd]at q
   have W1:=W.toSame s1
   refine⟨lc,_,_,rfl,rfl,W1.came,by rw[qe9,hlen];exact zhc (by lia),?_⟩
   exact q _ _ _ _ (W1.push (x:=nought) e1 zb6)
  |name y=>
   refine⟨_,rfl,rfl,_,rfl,zb3 (λh=>absurd (of_decide_eq_true h) (by simp only[sxW];decide +kernel)) (λ_=>?_)⟩
   refine⟨_,rfl,rfl,_,rfl,zb3 (λh=>absurd (of_decide_eq_true h) (by simp only[sxW];decide +kernel)) (λ_=>?_)⟩
   refine⟨_,rfl,rfl,_,rfl,zb3 (λ_=>?_) (λh=>absurd (by simp only[sxW];decide +kernel) h)⟩
   refine⟨_,rfl,wk,ad.Work,dx,_,_,rfl,W.ob,T.l_Work,T.n_Work_came,rfl,.inl ⟨rfl,_,SqL.of W.came⟩,_,rfl,wk,dx,_,rfl,W.ob,rfl,_,rfl,t,_,_,_,rfl,rfl,htH,rfl,H0,wk,k,d,ps,m,dx,lo,le,lc,ers,crs,y,known,rfl,W,hk,kok,h24,?_⟩
   simp only[zbd]at q
   cases ei:ps.idxOf? y with
   |some j=>
    rw[ei]at q
    intro a ha
    refine⟨lc,_,_,rfl,rfl,W.came,by rw[qe9,hlen];exact zhc (by lia),?_⟩
    exact q _ _ _ _ (W.push ha (zau _))
   |none=>
    rw[ei]at q
    dsimp only at q ⊢
    cases ef:known.find? λq=>q.1 == y with
    |none=>rw[ef]at q;exact absurd rfl q.1
    |some p=>
     rw[ef]at q
     dsimp only at q ⊢
     cases e:more p.2.places m.s with
     |error v=>rw[e]at q;exact q.2
     |ok z=>
      rw[e]at q
      intro H1 a W1 f1 ha
      refine⟨lc,_,_,rfl,rfl,W1.came,by rw[qe9,hlen];exact zhc (by lia),?_⟩
      exact q _ _ _ _ (W1.push ha (zfz _ (kok p (qhe ef)).wc))
  |call g n=>
   refine⟨_,rfl,rfl,_,rfl,zb3 (λh=>absurd (of_decide_eq_true h) (by simp only[sxW];decide +kernel)) (λ_=>?_)⟩
   refine⟨_,rfl,rfl,_,rfl,zb3 (λh=>absurd (of_decide_eq_true h) (by simp only[sxW];decide +kernel)) (λ_=>?_)⟩
   refine⟨_,rfl,rfl,_,rfl,zb3 (λh=>absurd (of_decide_eq_true h) (by simp only[sxW];decide +kernel)) (λ_=>?_)⟩
   refine⟨_,rfl,rfl,_,rfl,zb3 (λ_=>?_) (λh=>absurd (by simp only[sxW];decide +kernel) h)⟩
   simp only[zbd]at q
   cases ef:known.find? λq=>q.1 == g with
   |none=>rw[ef]at q;exact absurd rfl q.1
   |some p=>
    rw[ef]at q
    dsimp only at q
    have mp:=qhe ef
    by_cases hl:m.st.length<p.2.of.length
    ·rw[if_pos hl]at q;exact absurd rfl q.1
    ·rw[if_neg hl]at q
     obtain⟨kvs,a,g1,g2,g3⟩:=hk.get ef
     refine⟨_,rfl,wk,dx,_,rfl,W.ob,rfl,_,rfl,wk,ad.Work,dx,_,_,rfl,W.ob,T.l_Work,T.n_Work_known,rfl,_,rfl,t,_,_,_,rfl,rfl,htH,rfl,d,_,rfl,(by rw[<-g2];exact DGet.k (k:=Sum.inr (S g)) (W.same _ _ g1)),?_⟩
     exact⟨H0,wk,k,d,ps,m,dx,lo,le,lc,ers,crs,a,p.2,rfl,W,g3,kok p mp,h6 p mp,by lia,h24,he,hs,q⟩
  |pw n=>
   refine⟨_,rfl,rfl,_,rfl,zb3 (λh=>absurd (of_decide_eq_true h) (by simp only[sxW];decide +kernel)) (λ_=>?_)⟩
   refine⟨_,rfl,rfl,_,rfl,zb3 (λh=>absurd (of_decide_eq_true h) (by simp only[sxW];decide +kernel)) (λ_=>?_)⟩
   refine⟨_,rfl,rfl,_,rfl,zb3 (λh=>absurd (of_decide_eq_true h) (by simp only[sxW];decide +kernel)) (λ_=>?_)⟩
   refine⟨_,rfl,rfl,_,rfl,zb3 (λh=>absurd (of_decide_eq_true h) (by simp only[sxW];decide +kernel)) (λ_=>?_)⟩
   refine⟨_,rfl,rfl,_,rfl,zb3 (λ_=>?_) (λh=>absurd (by simp only[sxW];decide +kernel) h)⟩
   simp only[zbd]at q
   cases er:m.st.reverse with
   |nil=>rw[er]at q;exact absurd rfl q.1
   |cons y r=>
    rw[er]at q
    dsimp only at q
    have est:=rev1 er
    have wy:WF y:=W.wc y (by rw[est];simp)
    obtain⟨cr,p,rfl,hp,g1,W1,kr1⟩:=W.pop est
    have hp':=kr1 _ _ wy hp
    have hr':r.reverse.length<=100000:=by rw[est]at hs;simp at hs;simp;lia
    refine⟨_,rfl,wk,ad.Work,dx,_,_,rfl,W.ob,T.l_Work,T.n_Work_came,rfl,.inl ⟨rfl,_,SqL.of W.came⟩,_,rfl,wk,ad.Work,dx,_,_,rfl,W.ob,T.l_Work,T.n_Work_came,rfl,.inl ⟨rfl,_,SqL.of W.came⟩,lc,_,_,rfl,rfl,W.came,g1,?_⟩
    have hi1:-(2 ^ 64)<n:=by have:=hi.1;have e:(2:Int) ^ 64=18446744073709551616:=by decide
                             rw[e];show (-18446744073709551616:Int)<n;have:-1000<n:=this;lia
    have hi2:n<2 ^ 64:=by have:=hi.2;have e:(2:Int) ^ 64=18446744073709551616:=by decide
                          rw[e];have:n<1000000:=this;lia
    refine⟨_,rfl,t,_,_,_,rfl,rfl,W1.same.tup ht,rfl,p,za6 y,n,rfl,hp',by rw[zbf wy];decide,⟨hi1,hi2⟩,λr1 H1 n1 s1 e1=>?_⟩
    rw[zn8]at e1
    have W3:=W1.toSame s1
    have wq:=zbw n wy
    refine⟨_,rfl,wk,ad.Work,dx,_,_,rfl,W3.ob,T.l_Work,T.n_Work_at,rfl,r1,_,k,rfl,e1,wq,λz=>?_,λz=>?_⟩
    ·rw[if_pos z]at q
     refine⟨lc,_,_,rfl,rfl,W3.came,by rw[qe9,W3.clen];exact zhc (by show r.reverse.length<=_;lia),?_⟩
     exact q _ _ _ _ (W3.push e1 wq)
    ·rw[if_neg (by rw[z];decide)]at q
     exact q.2
  |times=>
   refine⟨_,rfl,rfl,_,rfl,zb3 (λh=>absurd (of_decide_eq_true h) (by simp only[sxW];decide +kernel)) (λ_=>?_)⟩
   refine⟨_,rfl,rfl,_,rfl,zb3 (λh=>absurd (of_decide_eq_true h) (by simp only[sxW];decide +kernel)) (λ_=>?_)⟩
   refine⟨_,rfl,rfl,_,rfl,zb3 (λh=>absurd (of_decide_eq_true h) (by simp only[sxW];decide +kernel)) (λ_=>?_)⟩
   refine⟨_,rfl,rfl,_,rfl,zb3 (λh=>absurd (of_decide_eq_true h) (by simp only[sxW];decide +kernel)) (λ_=>?_)⟩
   refine⟨_,rfl,rfl,_,rfl,zb3 (λh=>absurd (of_decide_eq_true h) (by simp only[sxW];decide +kernel)) (λ_=>?_)⟩
   exact⟨_,rfl,wk,dx,_,rfl,W.ob,rfl,_,rfl,H0,wk,k,d,ps,m,dx,lo,le,lc,ers,crs,_,rfl,W,.inl rfl,he,hs,rest (.inl rfl)⟩
  |over=>
   refine⟨_,rfl,rfl,_,rfl,zb3 (λh=>absurd (of_decide_eq_true h) (by simp only[sxW];decide +kernel)) (λ_=>?_)⟩
   refine⟨_,rfl,rfl,_,rfl,zb3 (λh=>absurd (of_decide_eq_true h) (by simp only[sxW];decide +kernel)) (λ_=>?_)⟩
   refine⟨_,rfl,rfl,_,rfl,zb3 (λh=>absurd (of_decide_eq_true h) (by simp only[sxW];decide +kernel)) (λ_=>?_)⟩
   refine⟨_,rfl,rfl,_,rfl,zb3 (λh=>absurd (of_decide_eq_true h) (by simp only[sxW];decide +kernel)) (λ_=>?_)⟩
   refine⟨_,rfl,rfl,_,rfl,zb3 (λh=>absurd (of_decide_eq_true h) (by simp only[sxW];decide +kernel)) (λ_=>?_)⟩
   exact⟨_,rfl,wk,dx,_,rfl,W.ob,rfl,_,rfl,H0,wk,k,d,ps,m,dx,lo,le,lc,ers,crs,.over,rfl,W,.inr (.inl rfl),he,hs,rest (.inr (.inl rfl))⟩
  |alike=>
   refine⟨_,rfl,rfl,_,rfl,zb3 (λh=>absurd (of_decide_eq_true h) (by simp only[sxW];decide +kernel)) (λ_=>?_)⟩
   refine⟨_,rfl,rfl,_,rfl,zb3 (λh=>absurd (of_decide_eq_true h) (by simp only[sxW];decide +kernel)) (λ_=>?_)⟩
   refine⟨_,rfl,rfl,_,rfl,zb3 (λh=>absurd (of_decide_eq_true h) (by simp only[sxW];decide +kernel)) (λ_=>?_)⟩
   refine⟨_,rfl,rfl,_,rfl,zb3 (λh=>absurd (of_decide_eq_true h) (by simp only[sxW];decide +kernel)) (λ_=>?_)⟩
   refine⟨_,rfl,rfl,_,rfl,zb3 (λh=>absurd (of_decide_eq_true h) (by simp only[sxW];decide +kernel)) (λ_=>?_)⟩
   exact⟨_,rfl,wk,dx,_,rfl,W.ob,rfl,_,rfl,H0,wk,k,d,ps,m,dx,lo,le,lc,ers,crs,.alike,rfl,W,.inr (.inr (.inl rfl)),he,hs,rest (.inr (.inr (.inl rfl)))⟩
  |compare=>
   refine⟨_,rfl,rfl,_,rfl,zb3 (λh=>absurd (of_decide_eq_true h) (by simp only[sxW];decide +kernel)) (λ_=>?_)⟩
   refine⟨_,rfl,rfl,_,rfl,zb3 (λh=>absurd (of_decide_eq_true h) (by simp only[sxW];decide +kernel)) (λ_=>?_)⟩
   refine⟨_,rfl,rfl,_,rfl,zb3 (λh=>absurd (of_decide_eq_true h) (by simp only[sxW];decide +kernel)) (λ_=>?_)⟩
   refine⟨_,rfl,rfl,_,rfl,zb3 (λh=>absurd (of_decide_eq_true h) (by simp only[sxW];decide +kernel)) (λ_=>?_)⟩
   refine⟨_,rfl,rfl,_,rfl,zb3 (λh=>absurd (of_decide_eq_true h) (by simp only[sxW];decide +kernel)) (λ_=>?_)⟩
   exact⟨_,rfl,wk,dx,_,rfl,W.ob,rfl,_,rfl,H0,wk,k,d,ps,m,dx,lo,le,lc,ers,crs,.compare,rfl,W,.inr (.inr (.inr rfl)),he,hs,rest (.inr (.inr (.inr rfl)))⟩
end
open Kp169 (Bytes Known more shift alike placesOf renumber closed)
abbrev zn1(l:List Nat):List Int:=l.map λ(n:Nat)=>(n:Int)
def qc8:Sp:=λvs H Q _=>∃(b:Addr)(rs:List Addr)(rows:List Row),vs=[.ref b]/\H b=some (.lst (rs.map V.ref))/\Rows H rs (rows.map za6)/\(∀x∈rows,WF x)/\zsg H Q (zn1 (placesOf rows))
def spAnew:Sp:=λvs H Q _=>∃(a o:Addr)(r:Row)(os:List Nat),vs=[.ref a,.ref o]/\zb5 H a r/\WF r/\LI H o (zn1 os)/\(∀p∈os,p<24)/\os.length<=24/\zsg H Q (za6 (renumber os r))
def spFrom(ad:Ad):Sp:=λvs H Q _=>∃(b c:Addr)(rs:List Addr)(rows:List Row)(row:Row),vs=[.ref b,.ref c]/\H b=some (.lst (rs.map V.ref))/\Rows H rs (rows.map za6)/\(∀x∈rows,WF x)/\rows.length<=1000/\zb5 H c row/\WF row ∧
 ∀q H',Same H H'->KindAt ad H' q (closed rows row)->Q (.ref q) H'
theorem zyo(p:Nat):∀os:List Nat,inV (.int (p:Nat)) ((zn1 os).map V.int)=os.contains p
 |[]=>rfl
 |y::os=>by
  have ih:=zyo p os
  unfold inV at ih ⊢
  show (((y:Int) == (p:Int)) || ((zn1 os).map V.int).any λy=>eqV y (V.int (p:Nat)))=_
  rw[ih,qgt]
  congr 1
  rw[qgw,beq_iff_eq,beq_iff_eq]
  lia
theorem zvh(l:List Int):(l.map V.int).all zmb=true:=by rw[qjf,qfm];intro x _;rfl
theorem zrd(b:List Nat)(r:Row)(j:Nat):(qgh (j+1)).foldl (λb p=>if pl r p=0 then b else zbn b p) b=(let c:=(qgh j).foldl (λb p=>if pl r p=0 then b else zbn b p) b;if pl r j=0 then c else zbn c j):=by
 rw[qiu,qh6];rfl
theorem Rows.row{H:Hp}{rs:List Addr}{rows:List Row}{i:Nat}{g:Addr}(h:Rows H rs (rows.map za6))(e:rs[i]?=some g):∃r,rows[i]?=some r/\zb5 H g r:=by
 obtain⟨s,h1,h2⟩:=h.get e
 rw[qfe]at h1
 obtain⟨r,hr,rfl⟩:=qff.mp h1
 exact⟨r,hr,h2⟩
section
variable{P:Program}{w:World}{K:qfa}{mg:Str->Option Value}{base:Heap}{ad:Ad}
theorem qa1(T:Txt K mg ad):Ok P w K mg base 2 "places_in_order" ["products"] qc8:=by
 have O1:=zek (P:=P) (w:=w) (base:=base) T
 refine T.f_places_in_order.ok T.M c_places_in_order (λvs H Q E h=>?_) (λf cdv A outer s0 H vs Q E hr h=>?_)
 ·obtain⟨b,rs,rows,rfl,_⟩:=h
  rfl
 ·obtain⟨b,rs,rows,rfl,hb,hR,hw,q⟩:=h
  refine⟨_,zad (zao (i:=1) c_places_in_order.nd rfl (Or.inl rfl) (zbm zae))
   (zad (zei zbk rfl (zby (pv 0)) (zbg (i:=2) c_places_in_order.nd rfl (Or.inl rfl))
    (zaf (zei zbk rfl (zns rfl T.z_enumerate (zaa (cN O1 hr zab (zaa (pv 2) zae)) zae)) (zjd K 3 4 rfl c_places_in_order.nd rfl rfl rfl rfl)
     (zaf (za9 (PW.pt (qb8 (zar zpk (pv 4) zan (zaz _)) (zw0 (zar zpj (pv 3) (pv 1) rfl))))
      (zaf (zal (zhr qf1 qgc qgd zbo (pv 1) (zaa (pv 3) zae)))) zav)))))
   (zaf (zaq (pv 1)))),?_⟩
  refine⟨(by show 0<=sizeLine;decide),λl nl=>?_⟩
  have s1:=zaj (o:=HO.lst []) nl
  refine⟨_,rfl,b,rfl,⟨_,SqL.of (s1 _ _ hb)⟩,zex (xs:=rs.map V.ref) (λi σ H'=>∃(v2 v3 v4:Option V),σ=[some (.ref b),some (.ref l),v2,v3,v4]/\Same H H'/\LI H' l (zn1 ((rows.take i).foldl zdq []))) ?_ ?_ ?_ ?_⟩
  ·exact⟨none,none,none,rfl,s1,zac⟩
  ·rintro i σ H' _ ⟨v2,v3,v4,_,s2,_⟩
   exact SqL.of (s2 _ _ hb)
  ·rintro i x σ H' hx ⟨v2,v3,v4,rfl,s2,e2⟩
   rw[qfe]at hx
   obtain⟨g,hg,rfl⟩:=qff.mp hx
   obtain⟨r,hrow,eg⟩:=(hR.same s2).row hg
   have wr:=hw r (qfw hrow)
   have estep:(rows.take (i+1)).foldl zdq []=zdq ((rows.take i).foldl zdq []) r:=by
    rw[qgi (l:=rows) (i:=i),hrow,qgz,qh6];rfl
   have oo:=(zig (rows.take i) [] ⟨by simp,by simp⟩).1
   generalize hc:(rows.take i).foldl zdq []=c at *
   refine⟨_,rfl,g,za6 r,rfl,eg,λr4 H4 n4 s4 e4=>?_⟩
   rw[zb9 wr]at e4
   have nr:r4≠l:=(zah e2 n4).symm
   refine⟨r4,_,rfl,SqL.of e4,zjz (xs:=r.place.map V.int) (λj σ H'=>∃(v3 v4:Option V),σ=[some (.ref b),some (.ref l),some (.ref g),v3,v4]/\Same H H'/\LI H' r4 r.place/\LI H' l (zn1 ((qgh j).foldl (λb p=>if pl r p=0 then b else zbn b p) c))) ?_ ?_ ?_ ?_⟩
   ·exact⟨_,_,rfl,s2.trans s4,e4,s4 _ _ e2⟩
   ·rintro j σ H5 _ ⟨v3,v4,_,_,e5,_⟩
    exact SqL.of e5
   ·rintro j x T' σ H5 hx nT ⟨v3,v4,rfl,s5,e5,e6⟩
    rw[qfe]at hx
    obtain⟨e,he,rfl⟩:=qff.mp hx
    have sT:=zaj (o:=HO.tup [V.int (j:Nat),V.int e]) nT
    have hj:j<24:=by have:=(qfc.mp he).1;rw[wr.p]at this;exact this
    have epl:pl r j=e:=by unfold pl;rw[qgg,he];rfl
    have olen:((qgh j).foldl (λb p=>if pl r p=0 then b else zbn b p) c).length<=24:=by
     have:=(zgw r (qgh j) c oo (λp hp=>by have:=qhl.mp hp;lia)).1
     exact zny 24 _ this.nd this.lt
    refine⟨T',_,rfl,.inl (.inl zac),rfl,_,_,rfl,_,_,rfl,rfl,?_⟩
    refine⟨_,rfl,rfl,_,rfl,?_⟩
    rw[ne0]
    have etake:=zrd c r j
    dsimp only at etake
    generalize hcj:(qgh j).foldl (λb p=>if pl r p=0 then b else zbn b p) c=cj at *
    by_cases h0:e=0
    ·rw[decide_eq_true h0]
     refine⟨_,_,rfl,s5.trans sT,sT _ _ e5,?_⟩
     rw[etake,if_pos (epl.trans h0)]
     exact sT _ _ e6
    ·rw[decide_eq_false h0]
     refine⟨_,rfl,_,rfl,l,_,rfl,.inl (SqL.of (sT _ _ e6)),rfl,zvh _,_,rfl,?_⟩
     show if (!inV (V.int (j:Nat)) ((zn1 cj).map V.int))=true then _ else _
     rw[zyo]
     rw[if_neg (λz=>h0 (epl.symm.trans z))]at etake
     cases hcont:cj.contains j with
     |true=>
      rw[show zbn cj j=cj by unfold zbn;rw[hcont];rfl]at etake
      refine⟨_,_,rfl,s5.trans sT,sT _ _ e5,?_⟩
      rw[etake]
      exact sT _ _ e6
     |false=>
      rw[show zbn cj j=cj++[j] by unfold zbn;rw[hcont];rfl]at etake
      refine⟨_,rfl,.inl ⟨rfl,_,SqL.of (sT _ _ e6)⟩,_,rfl,l,_,_,rfl,rfl,sT _ _ e6,by rw[qe9,qe9];exact zhc (by lia),?_⟩
      refine⟨_,_,rfl,zay (s5.trans sT) nl _,?_,?_⟩
      ·show upd _ _ _ _=_
       rw[zai nr];exact sT _ _ e5
      ·show upd _ _ _ _=_
       rw[zac,etake];simp[zn1]
   ·rintro σ H5 ⟨v3,v4,rfl,s5,e5,e6⟩
    refine⟨_,_,_,rfl,s5,?_⟩
    rw[qe9,wr.p]at e6
    rw[estep];exact e6
  ·rintro σ H' ⟨v2,v3,v4,rfl,s2,e2⟩
   rw[qe9,hR.len,qe9,qgr,<-zgs]at e2
   exact⟨_,rfl,q l H' nl s2 e2⟩
theorem qeg(T:Txt K mg ad):Ok P w K mg base 2 "numbered_anew" ["product","order"] spAnew:=by
 have O1:=zek (P:=P) (w:=w) (base:=base) T
 have O2:=zhu (P:=P) (w:=w) (base:=base) T
 obtain⟨t2,hP⟩:=T.k_PLACES
 refine T.f_numbered_anew.ok T.M c_numbered_anew (λvs H Q E h=>?_) (λf cdv A outer s0 H vs Q E hr h=>?_)
 ·obtain⟨a,o,r,os,rfl,_⟩:=h
  rfl
 ·obtain⟨a,o,r,os,rfl,ha,wr,ho,h24,hl,q⟩:=h
  refine⟨_,zad (zao (i:=2) c_numbered_anew.nd rfl (Or.inr rfl) (cN O1 hr zab (zaa (pv 0) zae)))
   (zaf (zaq (za8 zdr (za8 zdr (cN O2 hr zab (zaa (pv 0) zae))
     (zl6 (own:=[("place",3)]) rfl c_numbered_anew.nd (zby (pv 1)) (zbs (by rfl)) (λ_ _ _ _ _=>zbg (i:=3) c_numbered_anew.nd rfl (Or.inl rfl)) (λ_ _ _ _ _=>zcp) (λ_ _ _ _ _=>zdp (r:=rIxL K) zew (pv 2) (pv 3) (λ_ _=>rfl))))
    (za8 ztg (zbm (zaa zan zae)) (za8 zkt (zat (v:=.int 24) rfl hP ⟨_,rfl⟩) (za0 za3 rfl T.z_len (by decide +kernel) (zaa (pv 1) zae))))))),?_⟩
  refine⟨_,rfl,a,za6 r,rfl,ha,λr1 H1 n1 s1 e1=>?_⟩
  rw[zb9 wr]at e1
  refine⟨_,rfl,a,za6 r,rfl,s1 _ _ ha,λr2 H2 n2 s2 e2=>?_⟩
  rw[zc4 wr]at e2
  refine⟨_,rfl,o,rfl,⟨_,SqL.of (s2 _ _ (s1 _ _ ho))⟩,λD hD=>?_⟩
  refine zn5 (λk=>r.place.getD k.toNat 0) 3 hD (SqL.of (s2 _ _ (s1 _ _ ho))) (by rw[qe9];lia) (λ_=>rfl) (λz H3 Q' hz s3 h=>?_) λH3 s3 e3=>?_
  ·obtain⟨p,hp,rfl⟩:=qf0.mp hz
   have hlt:=h24 p hp
   have hpl:p<r.place.length:=by rw[wr.p];exact hlt
   refine⟨_,rfl,_,rfl,r1,_,_,_,rfl,rfl,s3.seq (SqL.of (s2 _ _ e1)),zez (v:=V.int (r.place.getD p 0)) ?_,?_⟩
   ·rw[qfe,qf2 hpl];simp[hpl]
   ·simpa using h
  ·have S3:=s1.trans (s2.trans s3)
   refine⟨r2,D,_,_,rfl,rfl,s3 _ _ e2,e3,?_,λr4 n4=>?_⟩
   ·rw[qe9,qe9,qe9,qe9,wr.m];exact big (by lia)
   have s4:=zaj (o:=HO.lst (r.mark.map V.int++((zn1 os).map (λk=>r.place.getD k.toNat 0)).map V.int)) n4
   refine⟨(by show 1<=sizeLine;decide),λl hl'=>?_⟩
   have s5:=zaj (o:=HO.lst [V.int 0]) hl'
   refine⟨_,rfl,o,_,rfl,.inl (SqL.of (s5 _ _ (s4 _ _ (S3 _ _ ho)))),zs5 rfl rfl (n:=((24 - os.length:Nat):Int)) ?_ ?_⟩
   ·rw[qe9,qe9];lia
   refine⟨l,_,_,rfl,rfl,zac,?_,?_,?_,λr6 n6=>?_⟩
   ·lia
   ·lia
   ·show 1*_<=_
    rw[show ((24 - os.length:Nat):Int).toNat=24 - os.length by simp]
    exact big (by lia)
   have s6:=zaj (o:=HO.lst (qfk (((24 - os.length:Nat):Int).toNat) [V.int 0]).flatten) n6
   refine⟨r4,r6,_,_,rfl,rfl,s6 _ _ (s5 _ _ zac),zac,?_,λr7 n7=>?_⟩
   ·rw[zhp,qfb,qe9,qe9,qe9,qe9,qe9,qi0,wr.m]
    rw[show ((24 - os.length:Nat):Int).toNat=24 - os.length by simp]
    exact big (by lia)
   have S7:=S3.trans (s4.trans (s5.trans s6))
   refine q r7 _ (S7.free n7) (S7.trans (zaj n7 _)) ?_
   show upd _ _ _ _=_
   have em:(zn1 os).map (λk=>r.place.getD k.toNat 0)=os.map (pl r):=by
    rw[qi5]
    refine qg0 λp hp=>?_
    simp[pl]
   rw[zac,<-zn7 hl,zhp,show ((24 - os.length:Nat):Int).toNat=24 - os.length by simp,em,qfg,qfg]
theorem qed(T:Txt K mg ad):Ok P w K mg base 3 "kind_from" ["parameters","comes"] (spFrom ad):=by
 have O1:=qa1 (P:=P) (w:=w) (base:=base) T
 have O2:=qeg (P:=P) (w:=w) (base:=base) T
 have O3:=zxx (P:=P) (w:=w) (base:=base) T
 refine T.f_kind_from.ok T.M c_kind_from (λvs H Q E h=>?_) (λf cdv A outer s0 H vs Q E hr h=>?_)
 ·obtain⟨b,c,rs,rows,row,rfl,_⟩:=h
  rfl
 ·obtain⟨b,c,rs,rows,row,rfl,hb,hR,hw,hl,hc,wc,q⟩:=h
  refine⟨_,zad (zao (i:=2) c_kind_from.nd rfl (Or.inr rfl) (cN O1 hr zab (zaa (za8 zdr (pv 0) (zbm (zaa (pv 1) zae))) zae)))
   (zaf (zaq (cC O3 hr zab (zaa
     (zl6 (own:=[("product",3)]) rfl c_kind_from.nd (zby (pv 0)) (zbs (by rfl)) (λ_ _ _ _ _=>zbg (i:=3) c_kind_from.nd rfl (Or.inl rfl)) (λ_ _ _ _ _=>zcp) (λ_ _ _ _ _=>cN O2 hr th0 (zaa (pv 3) (zaa (pv 2) zae))))
    (zaa (cN O2 hr zab (zaa (pv 1) (zaa (pv 2) zae))) (zaa (za0 za3 rfl T.z_len (by decide +kernel) (zaa (pv 2) zae)) zae)))))),?_⟩
  refine⟨_,rfl,_,rfl,(by show 1<=sizeLine;decide),λl nl=>?_⟩
  have s1:=zaj (o:=HO.lst [V.ref c]) nl
  have rlen:rs.length=rows.length:=by have:=hR.len;rw[qe9]at this;exact this
  refine⟨b,l,_,_,rfl,rfl,s1 _ _ hb,zac,by rw[qe9];exact big (by simp;lia),λp np=>?_⟩
  have s2:=zaj (o:=HO.lst (rs.map V.ref++[V.ref c])) np
  refine⟨p,rs++[c],rows++[row],rfl,by rw[zac,qfg];rfl,by rw[qfg];exact Rows.push (hR.same (s1.trans s2)) (s2 _ _ (s1 _ _ hc)),λx hx=>?_,λo H2 n2 s3 e3=>?_⟩
  ·rcases qfj.mp hx with hx|hx
   ·exact hw x hx
   ·rw[qfq.mp hx];exact wc
  obtain⟨g1,g2,g3⟩:=zgr (rows++[row])
  have ecl:closed rows row=⟨rows.length,(placesOf (rows++[row])).length,rows.map (renumber (placesOf (rows++[row]))),renumber (placesOf (rows++[row])) row⟩:=rfl
  rw[ecl]at q
  generalize hos:placesOf (rows++[row])=os at *
  have S3:=s1.trans (s2.trans s3)
  refine⟨_,rfl,b,rfl,⟨_,SqL.of (S3 _ _ hb)⟩,λD hD=>?_⟩
  refine zfq (xs:=rs.map V.ref) (λi H6=>∃rs2,Same H2 H6/\H6 D=some (.lst (rs2.map V.ref))/\Rows H6 rs2 (((rows.take i).map (renumber os)).map za6)) ⟨[],zaj hD _,by rw[zac];rfl,Paired.nil⟩ (λi H6 _ ⟨rs2,s6,_⟩=>SqL.of (s6 _ _ (S3 _ _ hb))) (λi x H6 hx ⟨rs2,s6,e6,R6⟩=>?_) λH6 ⟨rs2,s6,e6,R6⟩=>?_
  ·rw[qfe]at hx
   obtain⟨g,hg,rfl⟩:=qff.mp hx
   obtain⟨r,hrow,eg⟩:=(hR.same (S3.trans s6)).row hg
   have wr:=hw r (qfw hrow)
   refine⟨rfl,_,rfl,_,rfl,g,o,r,os,rfl,eg,wr,s6 _ _ e3,g1.lt,g2,λr7 H7 n7 s7 e7=>?_⟩
   refine⟨_,s7 _ _ e6,?_,rs2++[r7],zay (s6.trans s7) hD _,by rw[zac,qfg];rfl,?_⟩
   ·have:=R6.len
    rw[qe9,qe9,qfx]at this
    rw[qe9];exact zhc (by lia)
   rw[qgi (l:=rows) (i:=i),hrow,qgz,qfg,qfg]
   refine Rows.off (s7 _ _ e6) (Rows.push (R6.same s7) e7) λl hl=>?_
   rcases qfj.mp hl with hl|hl
   ·obtain⟨u,hu,rfl⟩:=qf0.mp hl
    obtain⟨y',hy',rfl⟩:=qf0.mp hu
    exact zdv (zet (hw y' (qg4 hy')))
   ·rw[qfq.mp hl];exact zdv (zet wr)
  ·rw[qe9,rlen,qgr]at R6
   have S6:=S3.trans s6
   refine⟨_,rfl,_,rfl,c,o,row,os,rfl,S6 _ _ hc,wc,s6 _ _ e3,g1.lt,g2,λr7 H7 n7 s7 e7=>?_⟩
   refine⟨_,rfl,o,_,rfl,.inl (SqL.of (s7 _ _ (s6 _ _ e3))),?_⟩
   intro x dx nx ndx hne
   refine⟨x,dx,D,r7,_,rfl,zac,λH8 e8 f8=>⟨rfl,?_⟩⟩
   have s8:Same H7 H8:=λu v h=>by
    have ux:u≠x:=zah h nx
    have ud:u≠dx:=zah h ndx
    exact f8 _ _ (by rw[zai ux,zai ud];exact h) ux
   refine q x H8 (S6.trans (s7.trans s8)) ?_
   refine⟨dx,D,r7,rs2,?_,s8 _ _ (s7 _ _ e6),R6.same (s7.trans s8),s8 _ _ e7⟩
   rw[qe9,qe9]at e8
   exact e8
end
end U
namespace L2
open PySem
theorem zgu{X:Cx}(K:qfa){e:Expr}{ta:TE}{f:Str}{pos:Pos}(he:PE X e ta)(hb:attributeBase e f X.env (eval e X.env)=eval e X.env)(hK:X.K=K:=by rfl):PE X (.Attribute e f pos) (tFld K ta f):=by
 subst hK
 exact zas he hb
end L2
namespace U
open PySem L2 Mir
open Kp168 (Row nought ofPlace ofMark mul pow Filling itself filled nearest)
open Kp169 (Bytes Known more shift alike placesOf renumber closed)
abbrev zbq:=Kp169.Item
def zfa:zbq->Str
 |.unit _=>"unit"
 |.let_ _ _=>"let"
 |.fn _ _ _=>"fn"
def itf(wd x:Str)(lp ls:Addr):List (Str×V):=[("word",.str wd),("name",.str x),("parameters",.ref lp),("steps",.ref ls)]
noncomputable abbrev zbz(l:List Bytes):List V:=l.map λx=>V.str (S x)
def ItemAt(ad:Ad)(H:Hp)(a:Addr)(i:zbq):Prop:=∃(dx lp ls:Addr)(ts:List Addr),H a=some (.ins ad.Item dx (itf (zfa i) (S i.name) lp ls))/\H lp=some (.lst (zbz (params i)))/\H ls=some (.lst (ts.map V.ref))/\Paired (λt x=>H t=some (.tup (sxV x))) ts (zb0 i)
theorem ItemAt.same{ad:Ad}{H H':Hp}{a:Addr}{i:zbq}(h:ItemAt ad H a i)(s:Same H H'):ItemAt ad H' a i:=by
 obtain⟨dx,lp,ls,ts,h1,h2,h3,h4⟩:=h
 exact⟨dx,lp,ls,ts,s _ _ h1,s _ _ h2,s _ _ h3,Paired.mapP h4 λ_ _ q=>s _ _ q⟩
theorem ItemAt.sameT{ad:Ad}{H H':Hp}{a:Addr}{i:zbq}(h:ItemAt ad H a i)(s:SameT H H'):ItemAt ad H' a i:=by
 obtain⟨dx,lp,ls,ts,h1,h2,h3,h4⟩:=h
 exact⟨dx,lp,ls,ts,s _ _ h1 (λ_ z=>nomatch z),s _ _ h2 (λ_ z=>nomatch z),s _ _ h3 (λ_ z=>nomatch z),Paired.mapP h4 λ_ _ q=>s _ _ q (λ_ z=>nomatch z)⟩
theorem qdu{α β:Type}{R:α->β->Prop}:∀{l:List α}{m:List β}{i:Nat}{a:α},Paired R l m->l[i]?=some a->∃b,m[i]?=some b/\R a b
 |_,_,_,_,.nil,h=>by simp at h
 |_,_,0,_,.cons a t,h=>by simp at h;subst h;exact⟨_,rfl,a⟩
 |_,_,i+1,_,.cons a t,h=>by
  obtain⟨s,h1,h2⟩:=qdu (i:=i) t (by simpa using h)
  exact⟨s,by simpa using h1,h2⟩
theorem zrz{l:List Bytes}{x:Bytes}(h:x ∉ l):(l++[x]).idxOf? x=some l.length:=by
 induction l with
 |nil=>simp[qii]
 |cons y l ih=>
  have h1:¬y=x:=λz=>h (by simp[z])
  have h2:x ∉ l:=λz=>h (by simp[z])
  rw[qgx,qii,if_neg (by simpa using h1),ih h2];rfl
theorem zry{l:List Bytes}{x y:Bytes}(h:x≠y):(l++[y]).idxOf? x=l.idxOf? x:=by
 induction l with
 |nil=>
  rw[qgm,qii,if_neg (by simpa using λz:y=x=>h z.symm)];simp
 |cons z l ih=>
  rw[qgx,qii,qii,ih]
theorem qbm{l:List Bytes}{x:Bytes}(h:x ∉ l):l.idxOf? x=none:=by
 rw[List.idxOf?_eq_none_iff];exact h
theorem WAt.ownPut{ad:Ad}{H0 H:Hp}{wk:Addr}{k:Int}{d:Addr}{ps:List Bytes}{m:MS}{dx lo le lc:Addr}{ers crs:List Addr}(W:WAt ad H0 H wk k d ps m dx lo le lc ers crs){a:Addr}{x:Bytes}(ha:zb5 H a (ofPlace ps.length))(hx:x ∉ ps) :
  ∃kvs,H lo=some (.dK kvs)/\kvs.length<=ps.length/\WAt ad H0 (upd H lo (.dK (zid kvs (.inr (S x)) (.ref a)))) wk k d (ps++[x]) m dx lo le lc ers crs:=by
 obtain⟨kvs,h1,h2,h3⟩:=id W.own
 have nr:=zrn h1
 have kr:=zel nr (.dK (zid kvs (.inr (S x)) (.ref a)))
 obtain⟨l1,l2,l3⟩:=W.low
 refine⟨kvs,h1,h2,⟨zay W.same W.f4 _,W.f1,W.f2,W.f3,W.f4,W.ne,by rw[zai l1.symm];exact W.ob,by rw[zai l2.symm];exact W.eqs,W.er.keep kr W.we,by rw[zai l3.symm];exact W.came,W.cr.keep kr W.wc,?_,W.we,W.wc⟩⟩
 have hnone:ze8 kvs (.inr (S x))=none:=by
  have:=h3 x
  rw[qbm hx]at this
  exact this
 refine⟨_,zac,?_,λy=>?_⟩
 ·rw[zjt _ hnone,qfb,qfb]
  exact qia h2 1
 ·rw[zhe]
  by_cases hy:y=x
  ·subst hy
   rw[zrz hx,if_pos rfl]
   exact⟨a,rfl,kr _ _ (zau _) ha⟩
  ·rw[zry hy,if_neg (λz=>hy (zqq (Sum.inr.inj z)))]
   have:=h3 y
   cases e:ps.idxOf? y with
   |none=>rw[e]at this;exact this
   |some j=>
    rw[e]at this
    obtain⟨b,b1,b2⟩:=this
    exact⟨b,b1,kr _ _ (zau _) b2⟩
def spKoe(K:qfa)(ad:Ad):Sp:=λvs H Q E=>∃(k:Int)(it d:Addr)(i:zbq)(known:Known),vs=[.int k,.ref it,.ref d]/\ItemAt ad H it i/\KnownAt ad H d known/\(∀q∈known,KOk q.2)/\(∀q∈known,q.2.of.length<=6)/\(params i).length<=6/\(params i).Nodup ∧
 zvw known (params i) (zb0 i)/\(zb0 i).length<=10000/\(∀x∈zb0 i,-1000<sxI x/\sxI x<1000000)/\TOk ad H ∧
 match zga known (params i) (zb0 i) with
 |.inl v=>zaw K ad.R E v k
 |.inr q=>∀a H',SameT H H'->TOk ad H'->KindAt ad H' a q->Q (.ref a) H'
theorem OwnAt.sameT{H H':Hp}{lo:Addr}{ps:List Bytes}(h:OwnAt H lo ps)(s:SameT H H'):OwnAt H' lo ps:=
 h.keep (λo e=>s _ _ e (by obtain⟨kvs,h1,_⟩:=h;rw[h1]at e;cases e;exact λ_ z=>nomatch z)) λa r _ q=>s _ _ q (λ_ z=>nomatch z)
theorem idx_at{l:List Bytes}{x:Bytes}{j:Nat}(hn:l.Nodup)(h:l[j]?=some x):l.idxOf? x=some j:=by
 obtain⟨hj,e⟩:=qfc.mp h
 refine qir.mpr ⟨hj,by simp[e],λk hk=>?_⟩
 have:l[k]'(by lia)≠l[j]:=λz=>by
  have:=(qjw hn).mp z
  lia
 rw[e]at this
 simpa using this
theorem qbb{l:List Bytes}{x:Bytes}{j:Nat}(hn:l.Nodup)(h:l[j]?=some x):x ∉ l.take j:=λz=>by
 obtain⟨k,hk,e⟩:=qhv.mp z
 rw[List.getElem_take]at e
 obtain⟨hj,e2⟩:=qfc.mp h
 rw[qfx]at hk
 have:=(qjw hn).mp (e.trans e2.symm)
 lia
section
variable{P:Program}{w:World}{K:qfa}{mg:Str->Option Value}{base:Heap}{ad:Ad}
theorem ok_koe(T:Txt K mg ad)(hK:K.In base)(hB:base.BuiltinsAt mg ad.pNP):Ok P w K mg base 8 "kind_of_expression" ["at","item","known"] (spKoe K ad):=by
 have O1:=qeh (P:=P) (w:=w) (base:=base) T
 have O2:=zkx (P:=P) (w:=w) (base:=base) T
 have O3:=ok_go (P:=P) (w:=w) (base:=base) T
 have O4:=zxk (P:=P) (w:=w) T hK hB
 have O5:=znx (P:=P) (w:=w) (base:=base) T
 have O6:=zxt (P:=P) (w:=w) (base:=base) T
 have O7:=qed (P:=P) (w:=w) (base:=base) T
 have X1:=zf4 (P:=P) (w:=w) (base:=base) T
 obtain⟨t1,hM⟩:=T.k_MOST_EQUATIONS
 refine T.f_kind_of_expression.ok T.M c_kind_of_expression (λvs H Q E h=>?_) (λf cdv A outer s0 H vs Q E hr h=>?_)
 ·obtain⟨k,it,d,i,known,rfl,_⟩:=h
  rfl
 ·obtain⟨k,it,d,i,known,rfl,hit,hkn,kok,h6,hp6,hnd,hrun,hst,hsx,ht,q⟩:=h
  have h1:Room 2 _:=hr.mono (by decide:2<=7)
  have h3:Room 3 _:=hr.mono (by decide:3<=7)
  have h4:Room 4 _:=hr.mono (by decide:4<=7)
  have h5:Room 5 _:=hr.mono (by decide:5<=7)
  have hx6:Room 6 _:=hr.mono (by decide:6<=7)
  have hu:=zpy hr
  obtain⟨idx,lp,ls,ts,i1,i2,i3,i4⟩:=hit
  refine⟨_,zad (zao (i:=3) c_kind_of_expression.nd rfl (Or.inr rfl) (cC O1 h1 zab (zaa (pv 0) (zaa (pv 2) zae))))
   (zad (zei zbk rfl (zby (zas (pv 1) rfl)) (zbg (i:=4) c_kind_of_expression.nd rfl (Or.inl rfl))
    (zaf (zkq hu (zas (pv 3) rfl) (pv 4) (cM0 O2 h5 zab (pv 3)) (by rfl))))
   (zad (zei zbk rfl (zby (zas (pv 1) rfl)) (zbg (i:=5) c_kind_of_expression.nd rfl (Or.inl rfl))
    (zaf (zal (cM O3 hx6 zab (pv 3) (zaa (pv 5) zae)))))
   (zad (za9 (zar znt (za0 za3 rfl T.z_len (by decide +kernel) (zaa (zas (pv 3) rfl) zae)) (zat (v:=.int 256) rfl hM ⟨_,rfl⟩) (zaz _)) (zaf (znr X1 h3 zab (pv 0))) zav)
   (zad (zao (i:=6) c_kind_of_expression.nd rfl (Or.inr rfl) (cN O4 hr zab (zaa (zas (pv 3) rfl) (zaa (zas (pv 3) rfl) (zaa (pv 0) zae)))))
   (zad (zpe (i:=7) (own:=[("name",4)]) zab rfl rfl rfl c_kind_of_expression.nd rfl rfl (by rfl) (zby (zas (pv 1) rfl)) (zbs (by rfl)) (λ_ _ _ _ _=>zbg (i:=4) c_kind_of_expression.nd rfl (Or.inl rfl)) (λ_ _ _ _ _=>zcp)
     (λ_ _ _ _ _ _ th=>cN O5 h4 th (zaa (cN O6 h1 th (zaa (zfl (by exact hu) (zgu K (pv 3) rfl) (pv 4) (λ_ _=>rfl)) (zaa (pv 6) zae))) (zaa (pv 0) zae))))
   (zaf (zaq (cN O7 h3 zab (zaa (pv 7) (zaa (cN O5 h4 zab (zaa (cN O6 h1 zab (zaa (zdp zew (zas (pv 3) rfl) zan (λ_ _=>rfl)) (zaa (pv 6) zae))) (zaa (pv 0) zae))) zae)))))))))),?_⟩
  refine⟨_,rfl,_,rfl,λwk dx nx ndx hne=>⟨wk,dx,d,k,rfl,zac,λlo le lc H1 nlo nle nlc hne2 eob elo ele elc f1=>⟨rfl,?_⟩⟩⟩
  have sA:Same H (upd (upd H dx (.own wk)) wk (.ins ad.Work dx [])):=zay (zaj ndx _) nx _
  have sB:Same H H1:=λu v h=>f1 _ _ (sA _ _ h) (zah h nx)
  generalize hps:params i=ps at *
  have W0:WAt ad H H1 wk k d [] (zec 0) dx lo le lc [] []:=⟨sB,nx,sA.free nle,sA.free nlc,sA.free nlo,hne2,eob,ele,Paired.nil,elc,Paired.nil,⟨[],elo,qfh _,λx=>rfl⟩,λx hx=>by simp[zec]at hx,λx hx=>by simp[zec]at hx⟩
  refine⟨_,rfl,it,ad.Item,idx,_,_,rfl,sB _ _ i1,T.l_Item,T.n_Item_parameters,rfl,lp,rfl,⟨_,SqL.of (sB _ _ i2)⟩,zex (xs:=zbz ps) (λj σ H'=>∃(v4:Option V),σ=[some (.int k),some (.ref it),some (.ref d),some (.ref wk),v4,none,none,none]/\WAt ad H H' wk k d (ps.take j) (zec j) dx lo le lc [] []) ⟨none,rfl,W0⟩ (λj σ H' _ ⟨v4,_,W⟩=>SqL.of (W.same _ _ i2)) ?_ ?_⟩
  ·rintro j x σ H' hx ⟨v4,rfl,W⟩
   rw[qfe]at hx
   obtain⟨y,hy,rfl⟩:=qff.mp hx
   have hj:=(qfc.mp hy).1
   have lj:(ps.take j).length=j:=by rw[qfx];lia
   refine⟨_,rfl,wk,dx,_,rfl,W.ob,rfl,H,wk,k,d,_,_,dx,lo,le,lc,[],[],rfl,W,by show j<=24;lia,?_⟩
   have em:more 1 (zec j).s=.ok (j,⟨j+1,[]⟩):=by
    unfold more;rw[if_pos (by show j+1<=24;lia)];rfl
   rw[em]
   intro H2 a W2 f2 ha
   obtain⟨kvs,g1,g2,W3⟩:=W2.ownPut (a:=a) (x:=y) (by rw[lj];exact ha) (qbb hnd hy)
   refine⟨_,rfl,wk,ad.Work,dx,_,_,rfl,W2.ob,T.l_Work,T.n_Work_own,rfl,_,rfl,lo,_,rfl,DPut.k (k:=Sum.inr (S y)) g1 (zhc (by lia)),_,rfl,?_⟩
   rw[qgi (l:=ps) (i:=j),hy,qgz]
   exact W3
  rintro σ H2 ⟨v4,rfl,W1⟩
  rw[qe9,qgr]at W1
  refine⟨_,rfl,it,ad.Item,idx,_,_,rfl,W1.same _ _ i1,T.l_Item,T.n_Item_steps,rfl,ls,rfl,⟨_,SqL.of (W1.same _ _ i3)⟩,zex (xs:=ts.map V.ref) (λj σ H'=>∃(v5:Option V)(m:MS)(lc:Addr)(ers crs:List Addr),σ=[some (.int k),some (.ref it),some (.ref d),some (.ref wk),v4,v5,none,none]/\WAt ad H H' wk k d ps m dx lo le lc ers crs ∧
   zjx known ps ((zb0 i).drop j) m=zjx known ps (zb0 i) (zec ps.length)/\MOk ps.length m/\m.s.eqs.length<=6*j/\m.st.length<=j) ⟨none,_,lc,[],[],rfl,W1,by rw[qhu],zkb (by lia),qfh _,qfh _⟩ (λj σ H' _ ⟨v5,m,lc,ers,crs,_,W,_⟩=>SqL.of (W.same _ _ i3)) ?_ ?_⟩
  ·rintro j x σ H' hx ⟨v5,m,lc,ers,crs,rfl,W,hm,mok,z1,z2⟩
   rw[qfe]at hx
   obtain⟨t,hjt,rfl⟩:=qff.mp hx
   obtain⟨sx,hsj,et⟩:=qdu i4 hjt
   obtain⟨hj,hj2⟩:=qfc.mp hsj
   have hdrop:(zb0 i).drop j=sx::(zb0 i).drop (j+1):=by
    rw[qf9 hj,hj2]
   rw[hdrop,zjx]at hm
   refine⟨_,rfl,wk,dx,_,rfl,W.ob,rfl,_,rfl,H,wk,k,d,ps,m,dx,lo,le,lc,ers,crs,sx,t,known,rfl,W,.inl (.inl et),hkn,kok,h6,mok.le,by lia,by lia,hsx sx (qfw hsj),?_⟩
   cases e:zbd known ps sx m with
   |error v=>
    rw[e]at hm
    dsimp only at hm
    unfold zvw at hrun
    rw[<-hm]at hrun
    have ei:zga known ps (zb0 i)=.inl v:=by unfold zga;rw[<-hm]
    rw[ei]at q
    exact⟨hrun,q⟩
   |ok m'=>
    rw[e]at hm
    intro H' lc' ers' crs' W'
    have:=zu5 h6 e
    exact⟨_,m',lc',ers',crs',rfl,W',hm,ztq kok mok e,by lia,by lia⟩
  rintro σ H3 ⟨v5,m,lc,ers,crs,rfl,W,hm,mok,z1,z2⟩
  have lts:ts.length=(zb0 i).length:=Paired.length i4
  rw[qe9,lts,qhi,zjx]at hm
  have eit:zga known ps (zb0 i)=(if 256<m.s.eqs.length then .inl (-28) else match zdz m.s.n m.s.eqs with
   |.inl v=>.inl v
   |.inr o=>if ((qgh ps.length).map λk=>filled o (ofPlace k)).all Kp168.small && Kp168.small (filled o (m.st.headD nought)) then
    .inr (closed ((qgh ps.length).map λk=>filled o (ofPlace k)) (filled o (m.st.headD nought))) else .inl (-75)):=by
   unfold zga;rw[<-hm] <;> rfl
  unfold zvw at hrun
  rw[<-hm]at hrun
  obtain⟨r,est⟩:∃r,m.st=[r]:=hrun
  rw[eit]at q
  have elen:ers.length=m.s.eqs.length:=by have:=W.er.len;rw[qe9]at this;exact this
  refine⟨_,rfl,wk,ad.Work,dx,_,_,rfl,W.ob,T.l_Work,T.n_Work_equations,rfl,le,_,rfl,.inl (SqL.of W.eqs),_,_,rfl,rfl,_,rfl,zb3 (λc1=>?_) (λc1=>?_)⟩
  ·have c1:(256:Int)<(((ers.map V.ref).length:Nat):Int):=of_decide_eq_true c1
   rw[qe9,elen]at c1
   rw[if_pos (by lia)]at q
   exact⟨_,rfl,k,rfl,q⟩
  have c1:¬(256:Int)<(((ers.map V.ref).length:Nat):Int):=of_decide_eq_false (qga.mpr c1)
  rw[qe9,elen]at c1
  rw[if_neg (by lia)]at q
  refine⟨_,rfl,wk,ad.Work,dx,_,_,rfl,W.ob,T.l_Work,T.n_Work_equations,rfl,_,rfl,wk,ad.Work,dx,_,_,rfl,W.ob,T.l_Work,T.n_Work_used,rfl,_,rfl,le,m.s.eqs,ers,m.s.n,k,rfl,W.eqs,W.er,mok.eq,mok.le,ht.same W.same,?_⟩
  cases es:zdz m.s.n m.s.eqs with
  |inl v=>rw[es]at q;exact q
  |inr o=>
   have ehd:m.st.headD nought=r:=by rw[est];rfl
   rw[es,ehd]at q
   dsimp only at q
   intro b' rs' H4 hb' R' so sm sT tT
   have hr0:=mok.st r (by rw[est];simp)
   have S4:SameT H H4:=W.same.t.trans sT
   have i1':=S4 _ _ i1 (λ_ z=>nomatch z)
   have i2':=S4 _ _ i2 (λ_ z=>nomatch z)
   have ob':H4 wk=_:=sT _ _ W.ob (λ_ z=>nomatch z)
   have own':=W.own.sameT sT
   have came':H4 lc=_:=sT _ _ W.came (λ_ z=>nomatch z)
   have cr':=W.cr.sameT sT
   rw[est]at cr'
   have hlen24:o.length<=24:=by rw[so.len];exact so.le
   let rowP:Nat->Row:=λp=>filled o (ofPlace p)
   refine⟨_,rfl,it,ad.Item,idx,_,_,rfl,i1',T.l_Item,T.n_Item_parameters,rfl,lp,rfl,⟨_,SqL.of i2'⟩,λD hD=>?_⟩
   refine zfq (xs:=zbz ps) (λj H6=>∃rs2,Same H4 H6/\H6 D=some (.lst (rs2.map V.ref))/\Rows H6 rs2 (((qgh j).map rowP).map za6)/\((qgh j).map rowP).all Kp168.small=true) ⟨[],zaj hD _,by rw[zac];rfl,Paired.nil,rfl⟩ (λj H6 _ ⟨rs2,s6,_⟩=>SqL.of (s6 _ _ i2')) (λj x H6 hx ⟨rs2,s6,e6,R6,a6⟩=>?_) λH6 ⟨rs2,s6,e6,R6,a6⟩=>?_
   ·rw[qfe]at hx
    obtain⟨y,hy,rfl⟩:=qff.mp hx
    have hj:=(qfc.mp hy).1
    obtain⟨kvs,o1,o2,o3⟩:=own'
    have o3y:=o3 y
    rw[idx_at hnd hy]at o3y
    obtain⟨a,a1,a2⟩:=o3y
    have wfj:WF (rowP j):=zbt (zau j) so.wf
    refine⟨rfl,_,rfl,wk,ad.Work,dx,_,_,rfl,s6 _ _ ob',T.l_Work,T.n_Work_own,rfl,_,rfl,lo,_,rfl,(by rw[<-a1];exact DGet.k (k:=Sum.inr (S y)) (s6 _ _ o1)),_,rfl,a,b',ofPlace j,rs',o,rfl,s6 _ _ a2,s6 _ _ hb',R'.same s6,zau j,so.wf,hlen24,zcl j,λr7 H7 n7 s7 e7=>?_⟩
    refine⟨_,rfl,r7,rowP j,k,rfl,e7,wfj,λz=>?_,λz=>?_⟩
    ·refine⟨_,s7 _ _ e6,?_,rs2++[r7],zay (s6.trans s7) hD _,by rw[zac,qfg];rfl,?_,?_⟩
     ·have:=R6.len
      rw[qe9,qe9,qjq]at this
      rw[qe9];exact zhc (by lia)
     ·rw[qiu,qfg,qfg]
      refine Rows.off (s7 _ _ e6) (Rows.push (R6.same s7) e7) λl hl=>?_
      rcases qfj.mp hl with hl|hl
      ·obtain⟨u,hu,rfl⟩:=qf0.mp hl
       obtain⟨y',hy',rfl⟩:=qf0.mp hu
       exact zdv (zbt (zau y') so.wf)
      ·rw[qfq.mp hl];exact zdv wfj
     ·rw[qiu,qfg,qg1,a6]
      simp[z]
    ·have:((qgh ps.length).map rowP).all Kp168.small=false:=by
      rw[qga]
      intro y2
      have:=qfm.mp y2 (rowP j) (qf0.mpr ⟨j,qhl.mpr hj,rfl⟩)
      rw[z]at this;cases this
     rw[this]at q
     exact q
   ·rw[qe9]at R6 a6
    rw[show ((qgh ps.length).map λk=>filled o (ofPlace k))=(qgh ps.length).map rowP from rfl,a6]at q
    obtain⟨c1,cq⟩:∃c,crs=[c]/\zb5 H4 c r:=by
     cases cr' with
     |cons h t=>cases t;exact⟨_,rfl,h⟩
    obtain⟨rfl,hc1⟩:=cq
    have wfr:WF (filled o r):=zbt hr0.wf so.wf
    refine⟨_,rfl,_,rfl,wk,ad.Work,dx,_,_,rfl,s6 _ _ ob',T.l_Work,T.n_Work_came,rfl,lc,_,_,_,rfl,rfl,SqL.of (s6 _ _ came'),rfl,_,rfl,c1,b',r,rs',o,rfl,s6 _ _ hc1,s6 _ _ hb',R'.same s6,hr0.wf,so.wf,hlen24,hr0.sm,λr7 H7 n7 s7 e7=>?_⟩
    refine⟨_,rfl,r7,filled o r,k,rfl,e7,wfr,λz=>?_,λz=>?_⟩
    ·rw[z]at q
     refine⟨D,r7,rs2,_,filled o r,rfl,s7 _ _ e6,R6.same s7,λx hx=>?_,by rw[qe9,qjq];lia,e7,wfr,λa H8 s8 k8=>?_⟩
     ·obtain⟨y',_,rfl⟩:=qf0.mp hx
      exact zbt (zau y') so.wf
     ·exact q a H8 (S4.trans (s6.trans (s7.trans s8)).t) (tT.same (s6.trans (s7.trans s8))) k8
    ·rw[z]at q
     exact q
end
open Kp169 (Bytes Known more shift alike placesOf renumber closed rightItem)
def Fine(i:zbq):Prop:=(zb0 i).length<=10000/\∀x∈zb0 i,-1000<sxI x/\sxI x<1000000
theorem KindAt.dict{ad:Ad}{H:Hp}{a d:Addr}{kd:zhb}{kvs:List (Key×V)}{o:HO}(h:KindAt ad H a kd)(hd:H d=some (.dK kvs)):KindAt ad (upd H d o) a kd:=by
 obtain⟨dx,lo,c,ors,h1,h2,h3,h4⟩:=h
 have n:∀{b:Addr}{u:HO},H b=some u->(∀kvs,u≠.dK kvs)->(upd H d o) b=some u:=λ{b u} e z=>by
  rw[zai (λy=>by subst y;rw[hd]at e;cases e;exact z _ rfl)];exact e
 exact⟨dx,lo,c,ors,n h1 (λ_ z=>nomatch z),n h2 (λ_ z=>nomatch z),Paired.mapP h3 λ_ _ q=>n q (λ_ z=>nomatch z),n h4 (λ_ z=>nomatch z)⟩
theorem KnownAt.put{ad:Ad}{H:Hp}{d a:Addr}{known:Known}{x:Bytes}{q:zhb}(h:KnownAt ad H d known)(ha:KindAt ad H a q)(hx:(known.find? λp=>p.1 == x)=none) :
  ∃kvs,H d=some (.dK kvs)/\kvs.length<=known.length/\KnownAt ad (upd H d (.dK (zid kvs (.inr (S x)) (.ref a)))) d (known++[(x,q)]):=by
 obtain⟨kvs,h1,h2,h3⟩:=h
 have hnone:ze8 kvs (.inr (S x))=none:=by
  have:=h3 x
  rw[hx]at this
  exact this
 refine⟨kvs,h1,h2,_,zac,?_,λy=>?_⟩
 ·rw[zjt _ hnone,qfb,qfb]
  exact qia h2 1
 ·rw[zhe,List.find?_append]
  by_cases hy:y=x
  ·subst hy
   rw[hx,if_pos rfl]
   have e:([(y,q)]:Known).find? (λp=>p.1 == y)=some (y,q):=by simp
   rw[Option.none_or,e]
   exact⟨a,rfl,ha.dict h1⟩
  ·rw[if_neg (λz=>hy (zqq (Sum.inr.inj z)))]
   have e:([(x,q)]:Known).find? (λp=>p.1 == y)=none:=by
    have:¬x=y:=λz=>hy z.symm
    simp[this]
   rw[e,Option.or_none]
   have:=h3 y
   cases e:known.find? λp=>p.1 == y with
   |none=>rw[e]at this;exact this
   |some j=>
    rw[e]at this
    obtain⟨b,b1,b2⟩:=this
    exact⟨b,b1,b2.dict h1⟩
theorem KnownAt.same{ad:Ad}{H H':Hp}(s:Same H H'){d:Addr}{known:Known}(h:KnownAt ad H d known):KnownAt ad H' d known:=h.sameT s.t
theorem zws{H0 H:Hp}{p:Addr}(s:SameT H0 H)(h:H0 p=none)(o:HO):SameT H0 (upd H p o):=λb u q n=>by rw[zai (zah q h)];exact s b u q n
theorem TOk.dict{ad:Ad}{H:Hp}{d:Addr}{kvs kvs':List (Key×V)}(t:TOk ad H)(hd:H d=some (.dK kvs)):TOk ad (upd H d (.dK kvs')):=by
 obtain⟨ps,h1,h2,h3⟩:=t
 have n:∀{b:Addr}{u:HO},H b=some u->(∀kvs,u≠.dK kvs)->(upd H d (.dK kvs')) b=some u:=λ{b u} e z=>by
  rw[zai (λy=>by subst y;rw[hd]at e;cases e;exact z _ rfl)];exact e
 refine⟨ps,n h1 (λ_ z=>nomatch z),h2,?_⟩
 rcases h3 with h3|⟨c',e,h3⟩
 ·exact .inl h3
 ·exact .inr ⟨c',e,n h3 (λ_ z=>nomatch z)⟩
def qdc(K:qfa)(ad:Ad):Sp:=λvs H Q E=>∃(b:Addr)(is:List Addr)(l:List zbq),vs=[.ref b]/\H b=some (.lst (is.map V.ref))/\Paired (λa i=>ItemAt ad H a i) is l/\zca 0 0 l=none/\zce [] l=none/\(∀i∈l,Fine i)/\TOk ad H ∧
 match zdt 0 [] 0 l with
 |.inl (v,k)=>zaw K ad.R E v k
 |.inr known=>∀(b':Addr)(as:List Addr)(H':Hp),SameT H H'->TOk ad H'->H' b'=some (.lst (as.map V.ref))->Paired (λa (q:Bytes×zhb)=>KindAt ad H' a q.2) as known->Q (.ref b') H'
theorem zw4{α β:Type}{R:α->β->Prop}:∀{l:List α}{m:List β}{a:α}{b:β},Paired R l m->R a b->Paired R (l++[a]) (m++[b])
 |_,_,_,_,.nil,h=>.cons h .nil
 |_,_,_,_,.cons a t,h=>.cons a (zw4 t h)
section
variable{P:Program}{w:World}{K:qfa}{mg:Str->Option Value}{base:Heap}{ad:Ad}
theorem qa3(T:Txt K mg ad)(hK:K.In base)(hB:base.BuiltinsAt mg ad.pNP):Ok P w K mg base 9 "kinds_of" ["sheet"] (qdc K ad):=by
 have O1:=zxx (P:=P) (w:=w) (base:=base) T
 have O2:=qeb (P:=P) (w:=w) (base:=base) T
 have O3:=ok_koe (P:=P) (w:=w) T hK hB
 refine T.f_kinds_of.ok T.M c_kinds_of (λvs H Q E h=>?_) (λf cdv A outer s0 H vs Q E hr h=>?_)
 ·obtain⟨b,is,l,rfl,_⟩:=h
  rfl
 ·obtain⟨b,is,l,rfl,hb,hit,hcount,hright,hfine,ht,q⟩:=h
  have h1:Room 2 _:=hr.mono (by decide:2<=8)
  have hu:=zpy hr
  refine⟨_,zad (zao (i:=1) c_kinds_of.nd rfl (Or.inr rfl) zju)
   (zad (zao (i:=2) c_kinds_of.nd rfl (Or.inl rfl) zan)
   (zad (zei zbk rfl (zns rfl T.z_enumerate (zaa (pv 0) zae)) (zjd K 3 4 rfl c_kinds_of.nd rfl rfl rfl rfl)
    (zaf (za9 (zar zej (zas (pv 4) rfl) zam (zaz _))
     (zad (zkq hu (pv 1) (zas (pv 4) rfl) (cC O1 h1 zab (zaa (zbm zae) (zaa (cN O2 h1 zab (zaa (pv 2) zae)) (zaa zan zae)))) (by rfl))
      (zaf (zao (i:=2) c_kinds_of.nd rfl (Or.inl rfl) (za8 zb8 (pv 2) zan))))
     (zaf (zkq hu (pv 1) (zas (pv 4) rfl) (cN O3 hr zab (zaa (pv 3) (zaa (pv 4) (zaa (pv 1) zae)))) (by rfl))))))
   (zaf (zaq (zl6 (own:=[("item",4)]) rfl c_kinds_of.nd (zby (pv 0)) (zbs (by rfl)) (λ_ _ _ _ _=>zbg (i:=4) c_kinds_of.nd rfl (Or.inl rfl)) (λ_ _ _ _ _=>zcp) (λ_ _ _ _ _=>zfl (by exact hu) (pv 1) (zgu K (pv 4) rfl) (λ_ _=>rfl))))))),?_⟩
  have lis:is.length=l.length:=Paired.length hit
  have hp6:=(zdw l 0 0 hcount).1
  have hl64:l.length<=64:=by
   rcases (zdw l 0 0 hcount).2 with z|z
   ·rw[z];decide
   ·lia
  refine λdk nk=>⟨_,rfl,b,_,rfl,SqL.of (zaj nk _ _ _ hb),zjz (xs:=is.map V.ref) (λj σ H'=>∃(v3 v4:Option V)(known:Known)(u:Nat),σ=[some (.ref b),some (.ref dk),some (.int u),v3,v4]/\SameT H H'/\TOk ad H'/\KnownAt ad H' dk known/\KO (l.take j) known/\zl3 (l.take j) ∧
   zca j u (l.drop j)=none/\zce (l.take j) (l.drop j)=none/\zdt j known u (l.drop j)=zdt 0 [] 0 l) ?_ ?_ ?_ ?_⟩
  ·exact⟨none,none,[],0,rfl,(zaj nk _).t,ht.same (zaj nk _),⟨[],zac,qfh _,λx=>rfl⟩,.nil,qjh,hcount,hright,rfl⟩
  ·rintro j σ H' _ ⟨v3,v4,known,u,_,sT,_⟩
   exact SqL.of (sT.lst hb)
  ·rintro j x T' σ H' hx nT ⟨v3,v4,known,u,rfl,sT,tT,kn,ko,hd,hc,hrt,hk⟩
   rw[qfe]at hx
   obtain⟨a,ha,rfl⟩:=qff.mp hx
   obtain⟨i,hi,ia⟩:=qdu hit ha
   obtain⟨hj,hj2⟩:=qfc.mp hi
   have hdrop:l.drop j=i::l.drop (j+1):=by rw[qf9 hj,hj2]
   have htake:l.take (j+1)=l.take j++[i]:=by rw[qgi (l:=l) (i:=j),hi];rfl
   rw[hdrop]at hc hrt hk
   obtain⟨c1,c2,c3,c4⟩:=zlh hc
   have hri:rightItem (l.take j) i=true:=by
    rw[zce]at hrt
    cases e:rightItem (l.take j) i with
    |true=>rfl
    |false=>rw[e]at hrt;simp at hrt
   rw[zce,if_pos hri]at hrt
   rw[zdt]at hk
   have hd2:=zww hd hri
   have knew:=zyg ko hd2
   have klen:known.length<=64:=by rw[<-ko.len,qfx];lia
   have sN:=zaj (o:=HO.tup [V.int (j:Nat),V.ref a]) nT
   have ia2:=(ia.sameT sT).same sN
   have kn2:=kn.same sN
   have tT2:=tT.same sN
   have sT2:=sT.trans sN.t
   obtain⟨idx,lp,ls,ts,i1,i2,i3,i4⟩:=id ia2
   have fin:∀(q:zhb)(H3:Hp)(a2:Addr)(v3 v4:Option V),zcq known u i=.inr q->SameT H H3->TOk ad H3->KnownAt ad H3 dk known->KindAt ad H3 a2 q->∃kvs,H3 dk=some (.dK kvs)/\kvs.length<sizeLine ∧
     (∃(v3' v4':Option V)(known':Known)(u':Nat),[some (V.ref b),some (V.ref dk),some (V.int (nu u i:Nat)),v3,v4]=[some (.ref b),some (.ref dk),some (.int u'),v3',v4']/\SameT H (upd H3 dk (.dK (zid kvs (.inr (S i.name)) (.ref a2))))/\TOk ad (upd H3 dk (.dK (zid kvs (.inr (S i.name)) (.ref a2))))/\KnownAt ad (upd H3 dk (.dK (zid kvs (.inr (S i.name)) (.ref a2)))) dk known'/\KO (l.take (j+1)) known'/\zl3 (l.take (j+1)) ∧
      zca (j+1) u' (l.drop (j+1))=none/\zce (l.take (j+1)) (l.drop (j+1))=none/\zdt (j+1) known' u' (l.drop (j+1))=zdt 0 [] 0 l):=by
    intro q H3 a2 v3 v4 hq s3 t3 k3 ka
    obtain⟨kvs,g1,g2,g3⟩:=k3.put ka knew
    obtain⟨w1,w2⟩:=zii ko.all c3 hq
    rw[hq]at hk
    refine⟨kvs,g1,zhc (by lia),v3,v4,known++[(i.name,q)],nu u i,rfl,zws s3 nk _,t3.dict g1,g3,?_,?_,c4,?_,hk⟩
    ·rw[htake];exact ko.snoc w1 w2
    ·rw[htake];exact hd2
    ·rw[htake];exact hrt
   refine⟨T',_,rfl,.inl (.inl zac),rfl,_,_,rfl,_,_,rfl,rfl,?_⟩
   refine⟨_,rfl,a,ad.Item,idx,_,_,rfl,i1,T.l_Item,T.n_Item_word,rfl,rfl,_,rfl,?_⟩
   cases hu:zd7 i with
   |true=>
    have ew:zfa i=("unit":Str):=by cases i <;> first|rfl|cases hu
    have en:nu u i=u+1:=by unfold nu;rw[hu];rfl
    have eo:zcq known u i=.inr ⟨0,0,[],ofMark u⟩:=by unfold zcq;rw[if_pos hu]
    rw[ew]
    refine zb3 (λ_=>?_) (λh=>absurd (decide_eq_true rfl) h)
    refine⟨(by show 0<=sizeLine;decide),λl1 n1=>?_⟩
    have s1:=zaj (o:=HO.lst []) n1
    refine⟨_,rfl,u,rfl,by lia,λr1 H2 n2 s2 e2=>?_⟩
    rw[zr2 (by lia)]at e2
    intro x dx nx ndx hne
    refine⟨x,dx,l1,r1,0,rfl,zac,λH3 e3 f3=>⟨rfl,?_⟩⟩
    have s3:Same H2 H3:=λz v h=>f3 _ _ (by rw[zai (zah h nx),zai (zah h ndx)];exact h) (zah h nx)
    have S3:=s1.trans (s2.trans s3)
    have ka:KindAt ad H3 x ⟨0,0,[],ofMark u⟩:=⟨dx,l1,r1,[],e3,s3 _ _ (s2 _ _ zac),Paired.nil,s3 _ _ e2⟩
    obtain⟨kvs,g1,g2,g3⟩:=fin _ H3 x (some (.int (j:Nat))) (some (.ref a)) eo (sT2.trans S3.t) (tT2.same S3) (kn2.same S3) ka
    refine⟨_,rfl,_,rfl,a,ad.Item,idx,_,_,rfl,S3 _ _ i1,T.l_Item,T.n_Item_name,rfl,dk,_,rfl,DPut.k (k:=Sum.inr (S i.name)) g1 g2,?_⟩
    rw[en]at g3
    exact⟨_,rfl,_,_,rfl,rfl,g3⟩
   |false=>
    have ew:decide (V.str (zfa i)=V.str ("unit":Str))=false:=by cases i <;> first|(cases hu;done)|exact decide_eq_false (by simp only[zfa];decide +kernel)
    have en:nu u i=u:=by unfold nu;rw[hu];rfl
    have eo:zcq known u i=zga known (params i) (zb0 i):=by unfold zcq;rw[if_neg (by rw[hu];decide)]
    rw[ew]
    refine zb3 (λh=>by cases h) (λ_=>?_)
    have fi:=hfine i (qfw hi)
    refine⟨_,rfl,_,rfl,_,rfl,j,a,dk,i,known,rfl,ia2,kn2,ko.all,ko.le (λi' hi'=>hp6 i' (qg4 hi')),c3,zq9 hd hri,zwv hd ko hri hu,fi.1,fi.2,tT2,?_⟩
    rw[eo]at hk fin
    cases e:zga known (params i) (zb0 i) with
    |inl v=>
     rw[e]at hk
     rw[<-hk]at q
     exact q
    |inr qk=>
     intro a2 H3 s3 t3 k3
     obtain⟨kvs,g1,g2,g3⟩:=fin qk H3 a2 (some (.int (j:Nat))) (some (.ref a)) e (sT2.trans s3) t3 (kn2.sameT s3) k3
     refine⟨_,rfl,_,rfl,a,ad.Item,idx,_,_,rfl,s3 _ _ i1 (λ_ z=>nomatch z),T.l_Item,T.n_Item_name,rfl,dk,_,rfl,DPut.k (k:=Sum.inr (S i.name)) g1 g2,?_⟩
     rw[en]at g3
     exact g3
  ·rintro σ H' ⟨v3,v4,known,u,rfl,sT,tT,kn,ko,hd,_,_,hk⟩
   rw[qe9,lis,qgr]at ko hd
   rw[qe9,lis,qhi,zdt]at hk
   rw[<-hk]at q
   have knd:(known.map (·.1)).Nodup:=by rw[ko.names];exact hd
   have klen:=ko.len
   refine⟨_,rfl,b,rfl,⟨_,SqL.of (sT.lst hb)⟩,λD hD=>?_⟩
   refine zfq (xs:=is.map V.ref) (λj H6=>∃as,Same H' H6/\H6 D=some (.lst (as.map V.ref))/\Paired (λa (q:Bytes×zhb)=>KindAt ad H' a q.2) as (known.take j)) ⟨[],zaj hD _,by rw[zac];rfl,Paired.nil⟩ (λj H6 _ ⟨as,s6,_⟩=>SqL.of (s6 _ _ (sT.lst hb))) (λj x H6 hx ⟨as,s6,e6,P6⟩=>?_) λH6 ⟨as,s6,e6,P6⟩=>?_
   ·rw[qfe]at hx
    obtain⟨a,ha,rfl⟩:=qff.mp hx
    obtain⟨i,hi,ia⟩:=qdu hit ha
    obtain⟨hj,hj2⟩:=qfc.mp hi
    have hjk:j<known.length:=by lia
    have hkj:known[j]?=some known[j]:=qf2 hjk
    have hnm:known[j].1=i.name:=by
     have:=congrArg (λz=>z[j]?) ko.names
     simp only[qfe,hkj,hi,qfy]at this
     exact qfl.inj this
    have hf:=qev knd hkj
    rw[hnm]at hf
    obtain⟨kvs,a2,h1,h2,h3⟩:=kn.get hf
    obtain⟨idx,lp,ls,ts,i1,i2,i3,i4⟩:=(ia.sameT sT).same s6
    refine⟨rfl,_,rfl,_,rfl,a,ad.Item,idx,_,_,rfl,i1,T.l_Item,T.n_Item_name,rfl,dk,_,rfl,(by rw[<-h2];exact DGet.k (k:=Sum.inr (S i.name)) (s6 _ _ h1)),_,e6,?_,as++[a2],zay s6 hD _,by rw[zac,qfg];rfl,?_⟩
    ·have:=Paired.length P6
     rw[qfx]at this
     rw[qe9];exact zhc (by lia)
    ·rw[qgi (l:=known) (i:=j),hkj,qgz]
     exact zw4 P6 h3
   ·rw[qe9,lis,klen,qgr]at P6
    exact q D as H6 (sT.trans s6.t) (tT.same s6) e6 (Paired.mapP P6 λ_ _ h=>h.same s6)
end
open Kp169 (Bytes Known rightItem)
def BeforeAt(ad:Ad)(H:Hp)(d:Addr)(before:List zbq):Prop:=∃kvs:List (Key×V),H d=some (.dK kvs)/\kvs.length<=before.length/\∀x:Bytes,match before.find? λi=>i.name == x with
 |some i=>∃a,ze8 kvs (.inr (S x))=some (.ref a)/\ItemAt ad H a i
 |none=>ze8 kvs (.inr (S x))=none
theorem BeforeAt.same{ad:Ad}{H H':Hp}(s:Same H H'){d:Addr}{before:List zbq}(h:BeforeAt ad H d before):BeforeAt ad H' d before:=by
 obtain⟨kvs,h1,h2,h3⟩:=h
 refine⟨kvs,s _ _ h1,h2,λx=>?_⟩
 have:=h3 x
 cases e:before.find? λi=>i.name == x with
 |none=>rw[e]at this;exact this
 |some q=>
  rw[e]at this
  obtain⟨a,a1,a2⟩:=this
  exact⟨a,a1,a2.same s⟩
theorem ItemAt.dict{ad:Ad}{H:Hp}{a d:Addr}{i:zbq}{kvs:List (Key×V)}{o:HO}(h:ItemAt ad H a i)(hd:H d=some (.dK kvs)):ItemAt ad (upd H d o) a i:=by
 obtain⟨dx,lp,ls,ts,h1,h2,h3,h4⟩:=h
 have n:∀{b:Addr}{u:HO},H b=some u->(∀kvs,u≠.dK kvs)->(upd H d o) b=some u:=λ{b u} e z=>by
  rw[zai (λy=>by subst y;rw[hd]at e;cases e;exact z _ rfl)];exact e
 exact⟨dx,lp,ls,ts,n h1 (λ_ z=>nomatch z),n h2 (λ_ z=>nomatch z),n h3 (λ_ z=>nomatch z),Paired.mapP h4 λ_ _ q=>n q (λ_ z=>nomatch z)⟩
theorem BeforeAt.put{ad:Ad}{H:Hp}{d a:Addr}{before:List zbq}{i:zbq}(h:BeforeAt ad H d before)(ha:ItemAt ad H a i)(hx:(before.find? λp=>p.name == i.name)=none) :
  ∃kvs,H d=some (.dK kvs)/\kvs.length<=before.length/\BeforeAt ad (upd H d (.dK (zid kvs (.inr (S i.name)) (.ref a)))) d (before++[i]):=by
 obtain⟨kvs,h1,h2,h3⟩:=h
 have hnone:ze8 kvs (.inr (S i.name))=none:=by
  have:=h3 i.name
  rw[hx]at this
  exact this
 refine⟨kvs,h1,h2,_,zac,?_,λy=>?_⟩
 ·rw[zjt _ hnone,qfb,qfb]
  exact qia h2 1
 ·rw[zhe,List.find?_append]
  by_cases hy:y=i.name
  ·subst hy
   rw[hx,if_pos rfl]
   have e:([i]:List zbq).find? (λp=>p.name == i.name)=some i:=by simp
   rw[Option.none_or,e]
   exact⟨a,rfl,ha.dict h1⟩
  ·rw[if_neg (λz=>hy (zqq (Sum.inr.inj z)))]
   have e:([i]:List zbq).find? (λp=>p.name == y)=none:=by
    have:¬i.name=y:=λz=>hy z.symm
    simp[this]
   rw[e,Option.or_none]
   have:=h3 y
   cases e:before.find? λp=>p.name == y with
   |none=>rw[e]at this;exact this
   |some j=>
    rw[e]at this
    obtain⟨b,b1,b2⟩:=this
    exact⟨b,b1,b2.dict h1⟩
theorem zob(before:List zbq)(x:Bytes):(before.find? λi=>i.name == x).isSome=(before.map Kp169.Item.name).contains x:=by
 rw[qgw,List.find?_isSome]
 simp only[beq_iff_eq,List.contains_iff_mem,qf0]
theorem BeforeAt.has{ad:Ad}{H:Hp}{d:Addr}{before:List zbq}(h:BeforeAt ad H d before)(x:Bytes):∃o,DGet H d (.str (S x)) o/\o.isSome=(before.map Kp169.Item.name).contains x:=by
 obtain⟨kvs,h1,_,h3⟩:=h
 refine⟨_,DGet.k (k:=Sum.inr (S x)) h1,?_⟩
 rw[<-zob]
 have:=h3 x
 cases e:before.find? λi=>i.name == x with
 |none=>rw[e]at this;rw[this];rfl
 |some i=>
  rw[e]at this
  obtain⟨a,a1,_⟩:=this
  rw[a1];rfl
theorem BeforeAt.get{ad:Ad}{H:Hp}{d:Addr}{before:List zbq}(h:BeforeAt ad H d before){x:Bytes}{i:zbq}(e:(before.find? λi=>i.name == x)=some i):∃a,DGet H d (.str (S x)) (some (.ref a))/\ItemAt ad H a i:=by
 obtain⟨kvs,h1,_,h3⟩:=h
 have:=h3 x
 rw[e]at this
 obtain⟨a,a1,a2⟩:=this
 exact⟨a,by rw[<-a1];exact DGet.k (k:=Sum.inr (S x)) h1,a2⟩
def qae(K:qfa)(ad:Ad):Sp:=λvs H Q E=>∃(b:Addr)(is:List Addr)(l:List zbq),vs=[.ref b]/\H b=some (.lst (is.map V.ref))/\Paired (λa i=>ItemAt ad H a i) is l ∧
 match zca 0 0 l with
 |some k=>zaw K ad.R E (-28) k
 |none=>∀H',Same H H'->Q .non H'
def spNew(ad:Ad):Sp:=λvs H Q _=>∃(a d:Addr)(i:zbq)(before:List zbq),vs=[.ref a,.ref d]/\ItemAt ad H a i/\BeforeAt ad H d before/\(params i).length<=100000/\∀H',Same H H'->Q (.bl (!(before.map Kp169.Item.name).contains i.name && zom (before.map Kp169.Item.name) [] (params i))) H'
section
variable{P:Program}{w:World}{K:qfa}{mg:Str->Option Value}{base:Heap}{ad:Ad}
theorem zxu(T:Txt K mg ad):Ok P w K mg base 4 "check_counts" ["sheet"] (qae K ad):=by
 have X1:=zf4 (P:=P) (w:=w) (base:=base) T
 obtain⟨t1,hM1⟩:=T.k_MOST_ITEMS
 obtain⟨t2,hM2⟩:=T.k_MOST_UNITS
 obtain⟨t3,hM3⟩:=T.k_MOST_PARAMETERS
 refine T.f_check_counts.ok T.M c_check_counts (λvs H Q E h=>?_) (λf cdv A outer s0 H vs Q E hr h=>?_)
 ·obtain⟨b,is,l,rfl,_⟩:=h
  rfl
 ·obtain⟨b,is,l,rfl,hb,hit,q⟩:=h
  have lis:is.length=l.length:=Paired.length hit
  refine⟨_,zad (zao (i:=1) c_check_counts.nd rfl (Or.inl rfl) zan)
   (zaf (zei zbk rfl (zns rfl T.z_enumerate (zaa (pv 0) zae)) (zjd K 2 3 rfl c_check_counts.nd rfl rfl rfl rfl)
    (zad (za9 (zar zej (zas (pv 3) rfl) zam (zaz _)) (zaf (zao (i:=1) c_check_counts.nd rfl (Or.inl rfl) (za8 zb8 (pv 1) zan))) zav)
    (zaf (za9 (PW.pt (zwz (zar qdz (pv 2) (zat (v:=.int 64) rfl hM1 ⟨_,rfl⟩) (zaz _)) (zwz (zar znt (pv 1) (zat (v:=.int 8) rfl hM2 ⟨_,rfl⟩) (zaz _)) (zs7 (zar znt (za0 za3 rfl T.z_len (by decide +kernel) (zaa (zas (pv 3) rfl) zae)) (zat (v:=.int 6) rfl hM3 ⟨_,rfl⟩) (zaz _))))))
     (zaf (znr X1 hr zab (pv 2))) zav))))),?_⟩
  refine⟨_,rfl,b,_,rfl,SqL.of hb,zjz (xs:=is.map V.ref) (λj σ H'=>∃(v2 v3:Option V)(u:Nat),σ=[some (.ref b),some (.int u),v2,v3]/\Same H H'/\zca j u (l.drop j)=zca 0 0 l) ?_ ?_ ?_ ?_⟩
  ·exact⟨none,none,0,rfl,Same.refl _,rfl⟩
  ·rintro j σ H' _ ⟨v2,v3,u,_,sT,_⟩
   exact SqL.of (sT _ _ hb)
  ·rintro j x T' σ H' hx nT ⟨v2,v3,u,rfl,sT,hc⟩
   rw[qfe]at hx
   obtain⟨a,ha,rfl⟩:=qff.mp hx
   obtain⟨i,hi,ia⟩:=qdu hit ha
   obtain⟨hj,hj2⟩:=qfc.mp hi
   have hdrop:l.drop j=i::l.drop (j+1):=by rw[qf9 hj,hj2]
   rw[hdrop]at hc
   have sN:=zaj (o:=HO.tup [V.int (j:Nat),V.ref a]) nT
   have sT2:=sT.trans sN
   obtain⟨idx,lp,ls,ts,i1,i2,i3,i4⟩:=ia.same sT2
   refine⟨T',_,rfl,.inl (.inl zac),rfl,_,_,rfl,_,_,rfl,rfl,?_⟩
   refine⟨_,rfl,a,ad.Item,idx,_,_,rfl,i1,T.l_Item,T.n_Item_word,rfl,rfl,_,rfl,?_⟩
   cases hu:zd7 i with
   |true=>
    have ew:zfa i=("unit":Str):=by cases i <;> first|rfl|cases hu
    have en:nu u i=u+1:=by unfold nu;rw[hu];rfl
    rw[ew]
    refine zb3 (λ_=>?_) (λh=>absurd (decide_eq_true rfl) h)
    refine⟨_,rfl,_,_,rfl,rfl,?_⟩
    rw[zca]at hc
    refine⟨_,rfl,_,_,rfl,rfl,_,rfl,zb3 (λc1=>?_) (λc1=>?_)⟩
    ·have c1:(64:Int)<=(j:Nat):=of_decide_eq_true c1
     rw[if_pos (.inl (by lia))]at hc
     rw[<-hc]at q
     exact⟨_,rfl,j,rfl,q⟩
    have c1:¬(64:Int)<=(j:Nat):=of_decide_eq_false (qga.mpr c1)
    refine⟨_,rfl,_,_,rfl,rfl,_,rfl,zb3 (λc2=>?_) (λc2=>?_)⟩
    ·have c2:(8:Int)<(u:Int)+1:=of_decide_eq_true c2
     rw[if_pos (.inr (.inl (by lia)))]at hc
     rw[<-hc]at q
     exact⟨_,rfl,j,rfl,q⟩
    have c2:¬(8:Int)<(u:Int)+1:=of_decide_eq_false (qga.mpr c2)
    refine⟨_,rfl,a,ad.Item,idx,_,_,rfl,i1,T.l_Item,T.n_Item_parameters,rfl,lp,_,rfl,.inl (SqL.of i2),_,_,rfl,rfl,_,rfl,zb3 (λc3=>?_) (λc3=>?_)⟩
    ·have c3:(6:Int)<(((zbz (params i)).length:Nat):Int):=of_decide_eq_true c3
     rw[qe9]at c3
     rw[if_pos (.inr (.inr (by lia)))]at hc
     rw[<-hc]at q
     exact⟨_,rfl,j,rfl,q⟩
    have c3:¬(6:Int)<(((zbz (params i)).length:Nat):Int):=of_decide_eq_false (qga.mpr c3)
    rw[qe9]at c3
    rw[if_neg (by lia)]at hc
    exact⟨_,_,nu u i,by rw[en];rfl,sT2,hc⟩
   |false=>
    have ew:decide (V.str (zfa i)=V.str ("unit":Str))=false:=by cases i <;> first|(cases hu;done)|exact decide_eq_false (by simp only[zfa];decide +kernel)
    have en:nu u i=u:=by unfold nu;rw[hu];rfl
    rw[ew]
    refine zb3 (λh=>by cases h) (λ_=>?_)
    rw[zca]at hc
    refine⟨_,rfl,_,_,rfl,rfl,_,rfl,zb3 (λc1=>?_) (λc1=>?_)⟩
    ·have c1:(64:Int)<=(j:Nat):=of_decide_eq_true c1
     rw[if_pos (.inl (by lia))]at hc
     rw[<-hc]at q
     exact⟨_,rfl,j,rfl,q⟩
    have c1:¬(64:Int)<=(j:Nat):=of_decide_eq_false (qga.mpr c1)
    refine⟨_,rfl,_,_,rfl,rfl,_,rfl,zb3 (λc2=>?_) (λc2=>?_)⟩
    ·have c2:(8:Int)<(u:Int):=of_decide_eq_true c2
     rw[if_pos (.inr (.inl (by lia)))]at hc
     rw[<-hc]at q
     exact⟨_,rfl,j,rfl,q⟩
    have c2:¬(8:Int)<(u:Int):=of_decide_eq_false (qga.mpr c2)
    refine⟨_,rfl,a,ad.Item,idx,_,_,rfl,i1,T.l_Item,T.n_Item_parameters,rfl,lp,_,rfl,.inl (SqL.of i2),_,_,rfl,rfl,_,rfl,zb3 (λc3=>?_) (λc3=>?_)⟩
    ·have c3:(6:Int)<(((zbz (params i)).length:Nat):Int):=of_decide_eq_true c3
     rw[qe9]at c3
     rw[if_pos (.inr (.inr (by lia)))]at hc
     rw[<-hc]at q
     exact⟨_,rfl,j,rfl,q⟩
    have c3:¬(6:Int)<(((zbz (params i)).length:Nat):Int):=of_decide_eq_false (qga.mpr c3)
    rw[qe9]at c3
    rw[if_neg (by lia)]at hc
    exact⟨_,_,nu u i,by rw[en];rfl,sT2,hc⟩
  ·rintro σ H' ⟨v2,v3,u,rfl,sT,hc⟩
   rw[qe9,lis,qhi,zca]at hc
   rw[<-hc]at q
   exact q H' sT
end
theorem zh0(x:Bytes):∀ps:List Bytes,inV (.str (S x)) (zbz ps)=ps.contains x
 |[]=>rfl
 |y::ps=>by
  have ih:=zh0 x ps
  unfold inV at ih ⊢
  show ((S y == S x) || (zbz ps).any λz=>eqV z (V.str (S x)))=_
  rw[ih,qgt]
  congr 1
  rw[qgw,beq_iff_eq,beq_iff_eq]
  exact⟨λh=>(zqq h).symm,λh=>by rw[h]⟩
theorem zr3(l:List Bytes):(zbz l).all zmb=true:=by rw[qjf,qfm];intro x _;rfl
theorem zv5(i:zbq):decide (V.str (zfa i)=V.str ("fn":Str))=isFn i:=by
 cases i with
 |unit x=>exact decide_eq_false (by simp only[zfa];decide +kernel)
 |let_ x e=>exact decide_eq_false (by simp only[zfa];decide +kernel)
 |fn x ps e=>exact decide_eq_true rfl
theorem ztw(a b:Nat):decide (V.int (a:Int)=V.int (b:Int))=(a == b):=by
 rw[qgw,decide_eq_true_eq,beq_iff_eq]
 exact⟨λh=>by have:=V.int.inj h;lia,λh=>by rw[h]⟩
def qc2(K:qfa)(ad:Ad):Sp:=λvs H Q _=>∃(t a d:Addr)(x:Sx)(i:zbq)(before:List zbq),vs=[.ref t,.ref a,.ref d]/\SqT K H t (sxV x)/\ItemAt ad H a i/\BeforeAt ad H d before/\Q (.bl (zcs before (params i) x)) H
def qde(ad:Ad):Sp:=λvs H Q _=>∃(a d:Addr)(i:zbq)(before:List zbq),vs=[.ref a,.ref d]/\ItemAt ad H a i/\BeforeAt ad H d before/\(params i).length<=100000/\(zb0 i).length<=100000/\∀H',Same H H'->Q (.bl (zjb before i)) H'
def qc4(K:qfa)(ad:Ad):Sp:=λvs H Q E=>∃(b:Addr)(is:List Addr)(l:List zbq),vs=[.ref b]/\H b=some (.lst (is.map V.ref))/\Paired (λa i=>ItemAt ad H a i) is l/\l.length<=100000/\(∀i∈l,(params i).length<=100000/\(zb0 i).length<=100000) ∧
 match zce [] l with
 |some k=>zaw K ad.R E (-22) k
 |none=>∀H',Same H H'->Q .non H'
section
variable{P:Program}{w:World}{K:qfa}{mg:Str->Option Value}{base:Heap}{ad:Ad}
theorem ok_new(T:Txt K mg ad):Ok P w K mg base 1 "names_are_new" ["item","before"] (spNew ad):=by
 refine T.f_names_are_new.ok T.M c_names_are_new (λvs H Q E h=>?_) (λf cdv A outer s0 H vs Q E hr h=>?_)
 ·obtain⟨a,d,i,before,rfl,_⟩:=h
  rfl
 ·obtain⟨a,d,i,before,rfl,hi,hb,hl,q⟩:=h
  have hu:=zpy hr
  refine⟨_,zad (za9 (zs8 (zm3 hu (zas (pv 0) rfl) (pv 1))) (zaf (zaq zpg)) zav)
   (zad (zao (i:=2) c_names_are_new.nd rfl (Or.inl rfl) zju)
   (zad (zei zbk rfl (zby (zas (pv 0) rfl)) (zbg (i:=3) c_names_are_new.nd rfl (Or.inl rfl))
    (zad (za9 (PW.pt (zwz (zs8 (zm3 hu (pv 3) (pv 2))) (zs7 (zs8 (zm3 hu (pv 3) (pv 1)))))) (zaf (zaq zpg)) zav)
    (zaf (zkq hu (pv 2) (pv 3) zpg (by rfl)))))
   (zaf (zaq zpg)))),?_⟩
  obtain⟨idx,lp,ls,ts,i1,i2,i3,i4⟩:=id hi
  generalize hps:params i=ps at *
  obtain⟨o,g1,g2⟩:=hb.has i.name
  refine⟨_,rfl,a,ad.Item,idx,_,_,rfl,i1,T.l_Item,T.n_Item_name,rfl,_,rfl,d,o,rfl,g1,_,rfl,?_⟩
  rw[g2]
  cases hc:(before.map Kp169.Item.name).contains i.name with
  |true=>
   rw[hc]at q
   exact q H (Same.refl _)
  |false=>
   rw[hc]at q
   replace q:∀H',Same H H'->Q (.bl (zom (before.map Kp169.Item.name) [] ps)) H':=q
   refine λsd nsd=>⟨_,rfl,a,ad.Item,idx,_,_,rfl,zaj nsd _ _ _ i1,T.l_Item,T.n_Item_parameters,rfl,lp,rfl,⟨_,SqL.of (zaj nsd _ _ _ i2)⟩,zex (xs:=zbz ps) (λj σ H'=>∃(v3:Option V)(kvs:List (Key×V)),σ=[some (.ref a),some (.ref d),some (.ref sd),v3]/\Same H H'/\H' sd=some (.dK kvs)/\kvs.length<=j ∧
    (∀x:Bytes,(ze8 kvs (.inr (S x))).isSome=(ps.take j).contains x)/\zom (before.map Kp169.Item.name) (ps.take j) (ps.drop j)=zom (before.map Kp169.Item.name) [] ps) ?_ ?_ ?_ ?_⟩
   ·exact⟨none,[],rfl,zaj nsd _,zac,qfh _,λx=>rfl,rfl⟩
   ·rintro j σ H' _ ⟨v3,kvs,_,s1,_⟩
    exact SqL.of (s1 _ _ i2)
   ·rintro j x σ H' hx ⟨v3,kvs,rfl,s1,e1,l1,c1,n1⟩
    rw[qfe]at hx
    obtain⟨y,hy,rfl⟩:=qff.mp hx
    obtain⟨hj,hj2⟩:=qfc.mp hy
    have hdrop:ps.drop j=y::ps.drop (j+1):=by rw[qf9 hj,hj2]
    have htake:ps.take (j+1)=ps.take j++[y]:=by rw[qgi (l:=ps) (i:=j),hy];rfl
    rw[hdrop,zom]at n1
    obtain⟨o',b1,b2⟩:=(hb.same s1).has y
    refine⟨_,rfl,_,rfl,sd,_,rfl,DGet.k (k:=Sum.inr (S y)) e1,_,rfl,?_⟩
    rw[c1 y]
    cases hs:(ps.take j).contains y with
    |true=>
     rw[hs]at n1
     have n1:false=zom (before.map Kp169.Item.name) [] ps:=n1
     rw[<-n1]at q
     exact q H' s1
    |false=>
     refine⟨_,rfl,_,rfl,d,o',rfl,b1,_,rfl,?_⟩
     rw[b2]
     rw[hs]at n1
     cases hbc:(before.map Kp169.Item.name).contains y with
     |true=>
      rw[hbc]at n1
      have n1:false=zom (before.map Kp169.Item.name) [] ps:=n1
      rw[<-n1]at q
      exact q H' s1
     |false=>
      rw[hbc]at n1
      have n1:zom (before.map Kp169.Item.name) (ps.take j++[y]) (ps.drop (j+1))=zom (before.map Kp169.Item.name) [] ps:=n1
      refine⟨_,rfl,_,rfl,sd,_,rfl,DPut.k (k:=Sum.inr (S y)) e1 (zhc (by lia)),?_⟩
      refine⟨_,_,rfl,zay s1 nsd _,zac,?_,λx=>?_,?_⟩
      ·have hnone:ze8 kvs (.inr (S y))=none:=by
        have:=c1 y
        rw[hs]at this
        exact Option.isSome_eq_false_iff.mp this |> Option.isNone_iff_eq_none.mp
       rw[zjt _ hnone,qfb]
       exact qia l1 1
      ·rw[zhe,htake]
       by_cases hxy:x=y
       ·subst hxy;rw[if_pos rfl];simp
       ·rw[if_neg (λz=>hxy (zqq (Sum.inr.inj z))),c1 x]
        simp[hxy]
      ·rw[htake];exact n1
   ·rintro σ H' ⟨v3,kvs,rfl,s1,e1,l1,c1,n1⟩
    rw[qe9,qhi,zom]at n1
    rw[<-n1]at q
    exact q H' s1
theorem qav(T:Txt K mg ad):Ok P w K mg base 1 "step_is_right" ["step","item","before"] (qc2 K ad):=by
 refine T.f_step_is_right.ok T.M c_step_is_right (λvs H Q E h=>?_) (λf cdv A outer s0 H vs Q E hr h=>?_)
 ·obtain⟨t,a,d,x,i,before,rfl,_⟩:=h
  rfl
 ·obtain⟨t,a,d,x,i,before,rfl,ht,hi,hb,q⟩:=h
  have hu:=zpy hr
  refine⟨_,zad (zao (i:=3) c_step_is_right.nd rfl (Or.inl rfl) (zdp ze5 (pv 0) zan (λ_ _=>rfl)))
   (zad (za9 (zar zej (zdp ze5 (pv 0) zan (λ_ _=>rfl)) zam (zaz _))
    (zaf (zaq (pe_or (zie zku (pv 3) (zas (pv 1) rfl) rfl) (zpf (zph (qcb (zm3 hu (pv 3) (pv 2))) (zpf (zie zpk (zas (zfl hu (pv 2) (pv 3) (λ_ _=>rfl)) rfl) zam (zaz _)))))))) zav)
   (zad (za9 (zar zej (zdp ze5 (pv 0) zan (λ_ _=>rfl)) zam (zaz _))
    (zaf (zaq (zph (qcb (zm3 hu (pv 3) (pv 2))) (zph (zie zej (zas (zfl hu (pv 2) (pv 3) (λ_ _=>rfl)) rfl) zam (zaz _))
     (zpf (zie zej (za0 za3 rfl T.z_len (by decide +kernel) (zaa (zas (zfl hu (pv 2) (pv 3) (λ_ _=>rfl)) rfl) zae)) (zdp ze5 (pv 0) zan (λ_ _=>rfl)) (zaz _))))))) zav)
   (zaf (zaq zpg)))),?_⟩
  obtain⟨idx,lp,ls,ts,i1,i2,i3,i4⟩:=id hi
  refine⟨_,rfl,t,_,_,_,rfl,rfl,ht,rfl,?_⟩
  have other:sxW x≠("name":Str)->sxW x≠("call":Str)->zcs before (params i) x=true:=λh1 h2=>by
   cases x <;> first|rfl|exact absurd rfl h1|exact absurd rfl h2
  refine⟨_,rfl,t,_,_,_,rfl,rfl,ht,rfl,rfl,_,rfl,zb3 (λc1=>?_) (λc1=>?_)⟩
  ·have c1:sxW x=("name":Str):=V.str.inj (of_decide_eq_true c1)
   have ex:∃y,x=.name y:=by
    cases x with
    |name y=>exact⟨y,rfl⟩
    |_=>exact absurd c1 (by simp only[sxW];decide +kernel)
   obtain⟨y,rfl⟩:=ex
   refine⟨_,rfl,_,rfl,a,ad.Item,idx,_,_,rfl,i1,T.l_Item,T.n_Item_parameters,rfl,lp,_,rfl,.inl (SqL.of i2),rfl,zr3 _,_,rfl,?_⟩
   show if inV (.str (S y)) (zbz (params i))=true then _ else _
   rw[zh0]
   simp only[zcs]at q
   cases hc:(params i).contains y with
   |true=>rw[hc]at q;exact q
   |false=>
    rw[hc]at q
    obtain⟨o,g1,g2⟩:=hb.has y
    refine⟨_,rfl,_,rfl,d,o,rfl,g1,_,rfl,?_⟩
    rw[g2,<-zob]
    cases hf:before.find? λi=>i.name == y with
    |none=>rw[hf]at q;exact q
    |some i'=>
     rw[hf]at q
     obtain⟨a',b1,b2⟩:=hb.get hf
     obtain⟨idx',lp',ls',ts',j1,j2,j3,j4⟩:=b2
     refine⟨_,rfl,_,rfl,d,_,rfl,b1,a',ad.Item,idx',_,_,rfl,j1,T.l_Item,T.n_Item_word,rfl,rfl,?_⟩
     rw[zv5]
     exact q
  have c1:¬sxW x=("name":Str):=λz=>c1 (by rw[z];exact decide_eq_true rfl)
  refine⟨_,rfl,t,_,_,_,rfl,rfl,ht,rfl,rfl,_,rfl,zb3 (λc2=>?_) (λc2=>?_)⟩
  ·have c2:sxW x=("call":Str):=V.str.inj (of_decide_eq_true c2)
   have ex:∃y n,x=.call y n:=by
    cases x with
    |call y n=>exact⟨y,n,rfl⟩
    |_=>exact absurd c2 (by simp only[sxW];decide +kernel)
   obtain⟨y,n,rfl⟩:=ex
   obtain⟨o,g1,g2⟩:=hb.has y
   refine⟨_,rfl,_,rfl,d,o,rfl,g1,_,rfl,?_⟩
   rw[g2,<-zob]
   simp only[zcs]at q
   cases hf:before.find? λi=>i.name == y with
   |none=>rw[hf]at q;exact q
   |some i'=>
    rw[hf]at q
    dsimp only at q
    obtain⟨a',b1,b2⟩:=hb.get hf
    obtain⟨idx',lp',ls',ts',j1,j2,j3,j4⟩:=b2
    refine⟨_,rfl,_,rfl,d,_,rfl,b1,a',ad.Item,idx',_,_,rfl,j1,T.l_Item,T.n_Item_word,rfl,rfl,_,rfl,?_⟩
    rw[zv5]
    cases hw:isFn i' with
    |false=>rw[hw]at q;exact q
    |true=>
     rw[hw]at q
     refine⟨_,rfl,_,rfl,d,_,rfl,b1,a',ad.Item,idx',_,_,rfl,j1,T.l_Item,T.n_Item_parameters,rfl,lp',_,rfl,.inl (SqL.of j2),_,rfl,t,_,_,_,rfl,rfl,ht,rfl,rfl,?_⟩
     show Q (.bl (decide (V.int (((zbz (params i')).length:Nat):Int)=V.int (n:Int)))) H
     rw[ztw,qe9]
     exact q
  have c2:¬sxW x=("call":Str):=λz=>c2 (by rw[z];exact decide_eq_true rfl)
  rw[other c1 c2]at q
  exact q
theorem qa5(T:Txt K mg ad):Ok P w K mg base 2 "item_is_right" ["item","before"] (qde ad):=by
 have O1:=ok_new (P:=P) (w:=w) (base:=base) T
 have O2:=qav (P:=P) (w:=w) (base:=base) T
 refine T.f_item_is_right.ok T.M c_item_is_right (λvs H Q E h=>?_) (λf cdv A outer s0 H vs Q E hr h=>?_)
 ·obtain⟨a,d,i,before,rfl,_⟩:=h
  rfl
 ·obtain⟨a,d,i,before,rfl,hi,hb,hl,hs,q⟩:=h
  refine⟨_,zaf (zaq (zph (cN O1 hr zab (zaa (pv 0) (zaa (pv 1) zae))) (zpf (za0 (cr_all rfl) rfl T.z_all (by decide +kernel)
   (zaa (zl6 (own:=[("step",2)]) rfl c_item_is_right.nd (zby (zas (pv 0) rfl)) (zbs (by rfl)) (λ_ _ _ _ _=>zbg (i:=2) c_item_is_right.nd rfl (Or.inl rfl)) (λ_ _ _ _ _=>zcp) (λ_ _ _ _ _=>cN O2 hr th0 (zaa (pv 2) (zaa (pv 0) (zaa (pv 1) zae))))) zae))))),?_⟩
  refine⟨_,rfl,_,rfl,a,d,i,before,rfl,hi,hb,hl,λH1 s1=>⟨_,rfl,?_⟩⟩
  unfold zjb at q
  cases hn:(!(before.map Kp169.Item.name).contains i.name && zom (before.map Kp169.Item.name) [] (params i)) with
  |false=>rw[hn]at q;exact q H1 s1
  |true=>
   rw[hn]at q
   obtain⟨idx,lp,ls,ts,i1,i2,i3,i4⟩:=id (hi.same s1)
   have lts:ts.length=(zb0 i).length:=Paired.length i4
   refine⟨_,rfl,a,ad.Item,idx,_,_,rfl,i1,T.l_Item,T.n_Item_steps,rfl,ls,rfl,⟨_,SqL.of i3⟩,λD hD=>?_⟩
   refine zfq (xs:=ts.map V.ref) (λj H6=>Same H1 H6/\H6 D=some (.lst ((((zb0 i).take j).map (zcs before (params i))).map V.bl))) ⟨zaj hD _,by rw[zac];rfl⟩ (λj H6 _ ⟨s6,_⟩=>SqL.of (s6 _ _ i3)) (λj x H6 hx ⟨s6,e6⟩=>?_) λH6 ⟨s6,e6⟩=>?_
   ·rw[qfe]at hx
    obtain⟨t,ht,rfl⟩:=qff.mp hx
    obtain⟨sx,hsx,et⟩:=qdu i4 ht
    refine⟨rfl,_,rfl,_,rfl,_,rfl,t,a,d,sx,i,before,rfl,.inl (.inl (s6 _ _ et)),hi.same (s1.trans s6),hb.same (s1.trans s6),_,e6,?_,zay s6 hD _,?_⟩
    ·rw[qe9,qe9,qfx];exact zhc (by lia)
    ·rw[zac,qgi (l:=zb0 i) (i:=j),hsx];simp
   ·rw[qe9,lts,qgr]at e6
    refine⟨D,_,rfl,SqL.of e6,?_⟩
    rw[qjf]
    exact q H6 (s1.trans s6)
theorem qax(T:Txt K mg ad):Ok P w K mg base 4 "check_right" ["sheet"] (qc4 K ad):=by
 have X1:=zky (P:=P) (w:=w) (base:=base) T
 have O1:=qa5 (P:=P) (w:=w) (base:=base) T
 refine T.f_check_right.ok T.M c_check_right (λvs H Q E h=>?_) (λf cdv A outer s0 H vs Q E hr h=>?_)
 ·obtain⟨b,is,l,rfl,_⟩:=h
  rfl
 ·obtain⟨b,is,l,rfl,hb,hit,hl,hsz,q⟩:=h
  have hu:=zpy hr
  have h2:Room 2 _:=hr.mono (by decide:2<=3)
  have lis:is.length=l.length:=Paired.length hit
  refine⟨_,zad (zao (i:=1) c_check_right.nd rfl (Or.inl rfl) zju)
   (zaf (zei zbk rfl (zns rfl T.z_enumerate (zaa (pv 0) zae)) (zjd K 2 3 rfl c_check_right.nd rfl rfl rfl rfl)
    (zad (za9 (zm0 (zcf (cN O1 h2 zab (zaa (pv 3) (zaa (pv 1) zae))))) (zaf (znr X1 hr zab (pv 2))) zav)
    (zaf (zkq hu (pv 1) (zas (pv 3) rfl) (pv 3) (by rfl)))))),?_⟩
  refine λdk nk=>⟨_,rfl,b,_,rfl,SqL.of (zaj nk _ _ _ hb),zjz (xs:=is.map V.ref) (λj σ H'=>∃(v2 v3:Option V),σ=[some (.ref b),some (.ref dk),v2,v3]/\Same H H'/\BeforeAt ad H' dk (l.take j)/\zl3 (l.take j)/\zce (l.take j) (l.drop j)=zce [] l) ?_ ?_ ?_ ?_⟩
  ·exact⟨none,none,rfl,zaj nk _,⟨[],zac,qfh _,λx=>rfl⟩,qjh,rfl⟩
  ·rintro j σ H' _ ⟨v2,v3,_,s1,_⟩
   exact SqL.of (s1 _ _ hb)
  ·rintro j x T' σ H' hx nT ⟨v2,v3,rfl,s1,bf,hd,hc⟩
   rw[qfe]at hx
   obtain⟨a,ha,rfl⟩:=qff.mp hx
   obtain⟨i,hi,ia⟩:=qdu hit ha
   obtain⟨hj,hj2⟩:=qfc.mp hi
   have hdrop:l.drop j=i::l.drop (j+1):=by rw[qf9 hj,hj2]
   have htake:l.take (j+1)=l.take j++[i]:=by rw[qgi (l:=l) (i:=j),hi];rfl
   rw[hdrop,zce,zd3 hd]at hc
   have sN:=zaj (o:=HO.tup [V.int (j:Nat),V.ref a]) nT
   have s2:=s1.trans sN
   have im:=hsz i (qfw hi)
   refine⟨T',_,rfl,.inl (.inl zac),rfl,_,_,rfl,_,_,rfl,rfl,?_⟩
   refine⟨_,rfl,_,rfl,a,dk,i,l.take j,rfl,ia.same s2,bf.same sN,im.1,im.2,λH3 s3=>⟨_,rfl,?_⟩⟩
   have ljt:(l.take j).length=j:=by rw[qfx];lia
   cases hp:zjb (l.take j) i with
   |false=>
    rw[hp,if_neg (by decide),ljt]at hc
    rw[<-hc]at q
    exact⟨_,rfl,j,rfl,q⟩
   |true=>
    rw[hp,if_pos rfl]at hc
    have hd2:=zgp hd hp
    have S3:=s2.trans s3
    obtain⟨kvs,g1,g2,g3⟩:=((bf.same sN).same s3).put (ia.same S3) (zt5 hd2)
    obtain⟨idx,lp,ls,ts,i1,i2,i3,i4⟩:=id (ia.same S3)
    refine⟨_,rfl,_,rfl,_,rfl,a,ad.Item,idx,_,_,rfl,i1,T.l_Item,T.n_Item_name,rfl,dk,_,rfl,DPut.k (k:=Sum.inr (S i.name)) g1 (zhc (by lia)),?_⟩
    refine⟨_,_,rfl,zay S3 nk _,?_,?_,?_⟩
    ·rw[htake];exact g3
    ·rw[htake];exact hd2
    ·rw[htake];exact hc
  ·rintro σ H' ⟨v2,v3,rfl,s1,bf,hd,hc⟩
   rw[qe9,lis,qhi,zce]at hc
   rw[<-hc]at q
   exact q H' s1
end
open Kp169 (Bytes)
def signsAll:List Nat:=(Str.ofString "abcdefghijklmnopqrstuvwxyz0123456789_(),;=+-*/^< \n.").cps.toList
theorem zno(c:Nat):signsAll.contains c=zl2 c:=by
 by_cases h:c<128
 ·have:∀c<128,signsAll.contains c=zl2 c:=by decide +kernel
  exact this c h
 ·have h1:zl2 c=false:=by
   unfold zl2 Kp169.inName Kp169.small Kp169.digit zb4
   rw[qaf]
   have e:∀n:Nat,n<128->(c == n)=false:=λn hn=>by simp;lia
   simp only[qgt,List.contains_nil,e _ (by decide:95<128),e _ (by decide:32<128),e _ (by decide:10<128),e _ (by decide:46<128),e _ (by decide:40<128),e _ (by decide:41<128),e _ (by decide:44<128),e _ (by decide:59<128),e _ (by decide:61<128),e _ (by decide:43<128),e _ (by decide:45<128),e _ (by decide:42<128),e _ (by decide:47<128),e _ (by decide:94<128),e _ (by decide:60<128),qjs]
   simp;lia
  rw[h1]
  have h2:∀n∈signsAll,n<128:=by decide +kernel
  cases e:signsAll.contains c with
  |false=>rfl
  |true=>
   have:=h2 c (by simpa using e)
   lia
theorem zk0(i:Nat):∀(L:List Nat)(acc:List (Key×V)),ze8 (zd6 acc (L.map λ(c:Nat)=>((Sum.inl (c:Int):Key),V.str ⟨#[c]⟩))) (.inl (i:Int))=if L.contains i then some (.str ⟨#[i]⟩) else ze8 acc (.inl (i:Int))
 |[],acc=>by simp[zd6]
 |c::L,acc=>by
  show ze8 (zd6 (zid acc (.inl (c:Int)) (.str ⟨#[c]⟩)) (L.map _)) _=_
  rw[zk0 i L,qgt,zhe]
  by_cases h:i=c
  ·subst h;simp
  ·have h1:(i == c)=false:=by simpa using h
   have h2:¬(Sum.inl (i:Int):Key)=.inl (c:Int):=λz=>h (by have:=Sum.inl.inj z;lia)
   rw[h1,qkn,if_neg h2]
end U
namespace L2
open PySem
theorem qeo{x:Str}{te:TE}{vs:List Nat}{σ:St}{H1:Hp}{D:Addr}{Qd:Hp->Prop}(f:Nat->V)(i:Nat)(hD:H1 D=none)(hz:x.cps.size<=1000000)(hw:∀x,zdh ((zdh σ vs).set i (some x)) vs=zdh σ vs)(ht:∀c H2 Q,Same H1 H2->Q (f c) H2->te ((zdh σ vs).set i (some (.str ⟨#[c]⟩))) H2 Q)(hq:∀H',Same H1 H'->H' D=some (.lst (x.cps.toList.map f))->Qd H') :
  ∃W:Nat->Nat->Hp->Prop,(∃m,W 0 m (upd H1 D (.lst [])))/\∀k m H,W k m H ->
   ((Its x).stop k H/\Qd H)\/((Its x).go k H/\∃Nx:Hp->Prop,(∀H',Nx H'->∃m',m'<m/\W (k+1) m' H')/\∀v H',(Its x).yld k H v H'->zjm i v (zdh σ vs) H' λσ2 H2=>zdh σ2 vs=zdh σ vs/\tYes σ2 H2 λb H3=>
    if b=true then te σ2 H3 λy H4=>∃acc,H4 D=some (.lst acc)/\acc.length<sizeLine/\Nx (upd H4 D (.lst (acc++[y]))) else Nx H3):=by
 have hsz:x.cps.toList.length=x.cps.size:=by simp
 refine⟨λk m H=>m=x.cps.size - k/\k<=x.cps.size/\Same H1 H/\H D=some (.lst ((x.cps.toList.take k).map f)),⟨x.cps.size,by simp,qg2 _,zaj hD _,by rw[zac];rfl⟩,?_⟩
 rintro k m H ⟨rfl,hk,sm,hacc⟩
 by_cases hlt:k<x.cps.size
 ·refine .inr ⟨hlt,λH'=>Same H1 H'/\H' D=some (.lst ((x.cps.toList.take (k+1)).map f)),λH' p'=>⟨x.cps.size - (k+1),by lia,rfl,hlt,p'⟩,λv H' y=>?_⟩
  obtain⟨rfl,c,hc,rfl⟩:=y
  refine⟨hw _,?_⟩
  refine ht c _ _ sm ⟨_,hacc,?_,zay sm hD _,?_⟩
  ·rw[qe9,qfx];exact zhc (by lia)
  ·rw[zac,qgi,qi1,hc]
   simp
 ·have e:k=x.cps.size:=by lia
  subst e
  refine .inl ⟨qfh _,hq H sm ?_⟩
  rw[hacc,<-hsz,qgr]
end L2
namespace U
open PySem L2 Mir
open Kp169 (Bytes)
abbrev one(c:Nat):Str:=⟨#[c]⟩
theorem zyj(l:List Nat):Str.join "" (l.map one)=S l:=by
 have h:=TL.tl_join "" (l.map one)
 have e:TL.joinL [] ((l.map one).map TL.tl)=l:=by
  rw[qi5]
  induction l with
  |nil=>rfl
  |cons c l ih=>
   cases l with
   |nil=>rfl
   |cons d l=>
    show [c]++([]++TL.joinL [] _)=_
    rw[qgm]
    exact congrArg (c::·) (ih (TL.tl_join "" _))
 have h2:(Str.join "" (l.map one)).cps.toList=l:=by
  have h3:TL.tl (Str.join "" (l.map one))=TL.joinL [] ((l.map one).map TL.tl):=h
  rw[e]at h3
  exact h3
 cases hj:Str.join "" (l.map one) with
 |mk a=>
  rw[hj]at h2
  show (⟨a⟩:Str)=⟨l.toArray⟩
  congr 1
  have:a.toList=l:=h2
  rw[<-this]
theorem zss{α:Type}(f:Nat->α):∀L:List Nat,(L.map f).zip L=L.map λc=>(f c,c)
 |[]=>rfl
 |c::L=>by rw[qge,qip,zss f L];rfl
def spText(K:qfa):Sp:=λvs H Q _=>∃(t:Addr)(b:Bytes),vs=[.ref t]/\SqL K H t ((zn1 b).map V.int)/\b.length<=100000/\∀H',Same H H'->Q (.str (S (b.map zcr))) H'
section
variable{P:Program}{w:World}{K:qfa}{mg:Str->Option Value}{base:Heap}{ad:Ad}
theorem qd1(T:Txt K mg ad):Ok P w K mg base 1 "text_of" ["t"] (spText K):=by
 obtain⟨t1,hN⟩:=T.k_NAME_SIGNS
 obtain⟨t2,hS⟩:=T.k_SIGNS
 obtain⟨t3,hB⟩:=T.k_BLANKS
 obtain⟨t4,hP⟩:=T.k_POINT
 obtain⟨t5,hX⟩:=T.k_STRANGE
 refine T.f_text_of.ok T.M c_text_of (λvs H Q E h=>?_) (λf cdv A outer s0 H vs Q E hr h=>?_)
 ·obtain⟨t,b,rfl,_⟩:=h
  rfl
 ·obtain⟨t,b,rfl,ht,hb,q⟩:=h
  have hu:=zpy hr
  refine⟨_,zad (zao (i:=1) c_text_of.nd rfl (Or.inl rfl) (za8 zih (za8 zih (za8 zih (zat (v:=.str "abcdefghijklmnopqrstuvwxyz0123456789_") rfl hN ⟨_,rfl⟩) (zat (v:=.str "(),;=+-*/^<") rfl hS ⟨_,rfl⟩)) (zat (v:=.str " \n") rfl hB ⟨_,rfl⟩)) (zat (v:=.str ".") rfl hP ⟨_,rfl⟩)))
   (zad (zao (i:=2) c_text_of.nd rfl (Or.inr rfl) (zuv rfl rfl T.z_zip rfl T.z_dict (zaa
     (zl6 (own:=[("sign",3)]) rfl c_text_of.nd (pi_str (pv 1)) (zbs (by rfl)) (λ_ _ _ _ _=>zbg (i:=3) c_text_of.nd rfl (Or.inl rfl)) (λ_ _ _ _ _=>zcp) (λ_ _ _ _ _=>za0 qbt rfl T.z_ord (by decide +kernel) (zaa (pv 3) zae)))
     (zaa (pv 1) zae))))
   (zaf (zaq (qdx zam
    (zl6 (own:=[("byte",4)]) rfl c_text_of.nd (zby (pv 0)) (zbs (by rfl)) (λ_ _ _ _ _=>zbg (i:=4) c_text_of.nd rfl (Or.inl rfl)) (λ_ _ _ _ _=>zcp) (λ_ _ _ _ _=>qap (by exact hu) (pv 2) (pv 4) (zat (v:=.str "?") rfl hX ⟨_,rfl⟩) ⟨rfl,rfl,rfl,rfl⟩)))))),?_⟩
  refine⟨_,_,rfl,rfl,(by decide +kernel),_,_,rfl,rfl,(by decide +kernel),_,_,rfl,rfl,(by decide +kernel),?_⟩
  have ex:((((Str.ofString "abcdefghijklmnopqrstuvwxyz0123456789_"++Str.ofString "(),;=+-*/^<")++Str.ofString " \n")++Str.ofString "."):Str).cps.toList=signsAll:=by decide +kernel
  have ea:((((Str.ofString "abcdefghijklmnopqrstuvwxyz0123456789_"++Str.ofString "(),;=+-*/^<")++Str.ofString " \n")++Str.ofString "."):Str).cps.all (·<128)=true:=by decide +kernel
  have es:((((Str.ofString "abcdefghijklmnopqrstuvwxyz0123456789_"++Str.ofString "(),;=+-*/^<")++Str.ofString " \n")++Str.ofString "."):Str).cps.size=signsAll.length:=by rw[<-ex];simp
  have e51:signsAll.length=51:=by decide +kernel
  generalize (((Str.ofString "abcdefghijklmnopqrstuvwxyz0123456789_"++Str.ofString "(),;=+-*/^<")++Str.ofString " \n")++Str.ofString ".")=x at *
  refine⟨_,rfl,x,rfl,λD hD=>?_⟩
  refine qeo (λc=>.int (c:Nat)) 3 hD (by lia) (λ_=>rfl) (λc H2 Q' s2 h=>⟨_,rfl,one c,rfl,rfl,h⟩) λH1 s1 e1=>?_
  refine⟨_,rfl,D,x,x.cps.toList.map (λ(c:Nat)=>(Sum.inl (c:Int):Key)),rfl,SqL.of (by rw[qi5];exact e1),ea,by simp,by rw[ex];decide +kernel,λp np=>?_⟩
  rw[zss,qi5,ex]
  have s3:=zaj (o:=HO.dK (zd6 [] (signsAll.map (zkv∘λ(c:Nat)=>((Sum.inl (c:Int):Key),c))))) np
  have S3:=s1.trans s3
  refine⟨⟨_,rfl⟩,_,rfl,t,rfl,⟨_,S3.seq ht⟩,λD2 hD2=>?_⟩
  refine zfq (xs:=(zn1 b).map V.int) (λj H6=>Same (upd H1 p (HO.dK (zd6 [] (signsAll.map (zkv∘λ(c:Nat)=>((Sum.inl (c:Int):Key),c)))))) H6/\H6 D2=some (.lst ((((b.map zcr).take j).map one).map V.str))) ⟨zaj hD2 _,by rw[zac];rfl⟩ (λj H6 _ ⟨s6,_⟩=>s6.seq (S3.seq ht)) (λj v H6 hx ⟨s6,e6⟩=>?_) λH6 ⟨s6,e6⟩=>?_
  ·rw[qfe,qfe]at hx
   obtain⟨i,hi,rfl⟩:=qff.mp hx
   obtain⟨c,hc,rfl⟩:=qff.mp hi
   have hd:=s6 _ _ (zac (H:=H1) (a:=p) (o:=HO.dK (zd6 [] (signsAll.map (zkv∘λ(c:Nat)=>((Sum.inl (c:Int):Key),c))))))
   refine⟨rfl,_,rfl,p,rfl,.inl ⟨_,.inl hd⟩,_,rfl,_,DGet.k (k:=Sum.inl (c:Int)) hd,_,e6,?_,zay s6 hD2 _,?_⟩
   ·rw[qe9,qe9,qfx,qe9];exact zhc (by lia)
   ·have hv:=zk0 c signsAll []
    rw[zac,qgi (l:=b.map zcr) (i:=j),qfe,hc]
    have hv2:ze8 (zd6 [] (signsAll.map (zkv∘λ(c:Nat)=>((Sum.inl (c:Int):Key),c)))) (.inl (c:Int))=if signsAll.contains c then some (.str ⟨#[c]⟩) else none:=hv
    rw[hv2,zno]
    have:(if zl2 c=true then some (V.str ⟨#[c]⟩) else none).getD (V.str "?")=V.str (one (zcr c)):=by
     unfold zcr
     split
     ·rfl
     ·exact congrArg V.str (by decide +kernel)
    rw[this]
    simp
  ·rw[qe9,qe9,<-qe9 (f:=zcr),qgr]at e6
   refine⟨_,D2,(b.map zcr).map one,rfl,rfl,.inl (SqL.of e6),?_,?_⟩
   ·have:((b.map zcr).map one).map (·.length)=(b.map zcr).map λ_=>1:=by rw[qi5];rfl
    rw[this]
    have h0:(("":Str)).length=0:=rfl
    rw[h0]
    have hs:∀l:List Nat,(l.map λ_=>1).sum=l.length:=λl=>by
     induction l with
     |nil=>rfl
     |cons a l ih=>rw[qge,qi9,ih];simp;lia
    rw[hs]
    simp;lia
   ·rw[TL.join_eq,zyj]
    exact q H6 (S3.trans s6)
end
open Kp169 (Bytes Tok)
theorem zo1{z:Str}{p:Nat->Bool}(h1:∀c<128,decide (c∈z.cps.toList)=p c)(h2:∀n∈z.cps.toList,n<128)(h3:∀c,128<=c->p c=false)(c:Nat):decide (c∈z.cps.toList)=p c:=by
 by_cases h:c<128
 ·exact h1 c h
 ·rw[h3 c (by lia)]
  exact decide_eq_false λz=>h (h2 c z)
theorem zq6(c:Nat):decide (c∈(Str.ofString "abcdefghijklmnopqrstuvwxyz").cps.toList)=Kp169.small c:=zo1 (by decide +kernel) (by decide +kernel) (λc h=>by unfold Kp169.small;simp;lia) c
theorem zic(c:Nat):decide (c∈(Str.ofString "0123456789").cps.toList)=Kp169.digit c:=zo1 (by decide +kernel) (by decide +kernel) (λc h=>by unfold Kp169.digit;simp;lia) c
theorem zwp(c:Nat):decide (c∈(Str.ofString "abcdefghijklmnopqrstuvwxyz0123456789_").cps.toList)=Kp169.inName c:=zo1 (by decide +kernel) (by decide +kernel) (λc h=>by unfold Kp169.inName Kp169.small Kp169.digit;simp;lia) c
theorem zmp(c:Nat):decide (c∈(Str.ofString " \n").cps.toList)=zb4 c:=zo1 (by decide +kernel) (by decide +kernel) (λc h=>by unfold zb4;simp;lia) c
theorem zwo(c:Nat):decide (c∈(Str.ofString "(),;=+-*/^<").cps.toList)=Kp169.signs.contains c:=zo1 (by decide +kernel) (by decide +kernel) (λc h=>by
 cases e:Kp169.signs.contains c with
 |false=>rfl
 |true=>
  have h2:∀n∈Kp169.signs,n<128:=by decide +kernel
  have:=h2 c (by simpa using e)
  lia) c
theorem zj0(p:Nat->Bool):∀l:List Nat,l.drop (l.takeWhile p).length=l.dropWhile p
 |[]=>rfl
 |x::l=>by
  rw[qgk,qij]
  split
  ·simp[zj0 p l]
  ·simp
theorem zdy(b:Bytes):(S b).length=b.length:=by show b.toArray.size=_;simp
theorem zt6(b:Bytes)(i j:Nat)(hi:i<=b.length):cutS (S b) (some (i:Int)) (some (j:Int))=S ((b.drop i).take (j - i)):=by
 unfold cutS
 rw[HT.sIx_nat,HT.sIx_nat,zdy,qh4 hi]
 show (⟨_⟩:Str)=⟨_⟩
 congr 2
 show ((b.drop i).take _)=_
 by_cases h:j<=b.length
 ·rw[qh4 h]
 ·rw[qih (by lia),qf4 (by simp),qf4 (by simp;lia)]
def spRun:Sp:=λvs H Q _=>∃(b:Bytes)(i:Nat)(z:Str)(p:Nat->Bool),vs=[.str (S b),.int i,.str z]/\b.length<=100000/\i<=b.length/\(∀c,decide (c∈z.cps.toList)=p c)/\Q (.int ((i+((b.drop i).takeWhile p).length:Nat):Int)) H
section
variable{P:Program}{w:World}{K:qfa}{mg:Str->Option Value}{base:Heap}{ad:Ad}
theorem zxl(T:Txt K mg ad):Ok P w K mg base 1 "end_of_run" ["text","start","signs"] spRun:=by
 refine T.f_end_of_run.ok T.M c_end_of_run (λvs H Q E h=>?_) (λf cdv A outer s0 H vs Q E hr h=>?_)
 ·obtain⟨b,i,z,p,rfl,_⟩:=h
  rfl
 ·obtain⟨b,i,z,p,rfl,hb,hi,hp,q⟩:=h
  refine⟨_,zad (zao (i:=3) c_end_of_run.nd rfl (Or.inl rfl) (pv 1))
   (zad (zd4 zbk (PW.pt (qb8 (zar op_lt (pv 3) (za0 zc5 rfl T.z_len (by decide +kernel) (zaa (pv 0) zae)) (zaz _)) (zw0 (zar zf3 (zdp qch (pv 0) (pv 3) (λ_ _=>rfl)) (pv 2) rfl))))
    (zaf (zao (i:=3) c_end_of_run.nd rfl (Or.inl rfl) (za8 zb8 (pv 3) zan))))
   (zaf (zaq (pv 3)))),?_⟩
  have hsl:(S b).length<=sizeLine:=by rw[zdy];exact big (by lia)
  refine⟨_,rfl,λm σ H'=>∃e:Nat,σ=[some (.str (S b)),some (.int i),some (.str z),some (.int e)]/\H'=H/\e<=b.length/\e+((b.drop e).takeWhile p).length=i+((b.drop i).takeWhile p).length/\m=b.length - e,⟨_,i,rfl,rfl,hi,rfl,rfl⟩,?_⟩
  rintro m σ H' ⟨e,rfl,rfl,he,hee,rfl⟩
  refine⟨_,rfl,_,rfl,S b,rfl,hsl,_,_,rfl,rfl,_,rfl,zb3 (λc1=>?_) (λc1=>?_)⟩
  ·have c1:(e:Int)<(((S b).length:Nat):Int):=of_decide_eq_true c1
   rw[zdy]at c1
   have hlt:e<b.length:=by lia
   have hdrop:b.drop e=b[e]::b.drop (e+1):=qf9 hlt
   refine⟨_,rfl,_,rfl,S b,e,b[e],rfl,rfl,hsl,zez (by show b[e]?=_;rw[qf2 hlt]),_,rfl,b[e],z,rfl,rfl,_,rfl,?_⟩
   rw[hp]
   rw[hdrop,qgk]at hee
   cases hc:p b[e] with
   |true=>
    rw[hc]at hee
    refine⟨λσ' H''=>∃e2:Nat,σ'=[some (.str (S b)),some (.int i),some (.str z),some (.int e2)]/\H''=H'/\e2<=b.length/\e2+((b.drop e2).takeWhile p).length=i+((b.drop i).takeWhile p).length/\e<e2,λσ' H'' ⟨e2,g1,g2,g3,g4,g5⟩=>⟨b.length - e2,by lia,e2,g1,g2,g3,g4,rfl⟩,?_⟩
    refine⟨_,rfl,_,_,rfl,rfl,e+1,rfl,rfl,by lia,?_,by lia⟩
    simp only[if_true,qfd]at hee
    lia
   |false=>
    rw[hc]at hee
    simp only[qfz,if_false,qf5,qks]at hee
    rw[<-hee]at q
    exact⟨_,rfl,q⟩
  ·have c1:¬(e:Int)<(((S b).length:Nat):Int):=of_decide_eq_false (qga.mpr c1)
   rw[zdy]at c1
   have he2:e=b.length:=by lia
   rw[he2,qhi]at hee
   simp only[List.takeWhile_nil,qf5,qks]at hee
   rw[<-hee,<-he2]at q
   exact⟨_,rfl,q⟩
end
abbrev zcv:=Kp169.Tok
noncomputable abbrev tokV(t:zcv):List V:=[.str (S (zkc t)),.str (S t.text)]
abbrev zsf(H:Hp)(a:Addr)(t:zcv):Prop:=H a=some (.tup (tokV t))
theorem S_bName:S zqk=("name":Str):=by decide +kernel
theorem S_bNumber:S zc9=("number":Str):=by decide +kernel
theorem wordsV:([V.str "unit",V.str "let",V.str "fn",V.str "if",V.str "then",V.str "else"]:List V)=zbz Kp169.words:=by decide +kernel
def qc1(K:qfa)(ad:Ad)(g:Nat->Bool):Sp:=λvs H Q E=>∃(b:Bytes)(i c:Nat),vs=[.str (S b),.int i]/\b.length<=100000/\b[i]?=some c/\g c=true ∧
 match zba (b.drop i) with
 |none=>zaw K ad.R E (-71) 0
 |some t=>∀a H',H a=none->Same H H'->zsf H' a t->Q (.ref a) H'
theorem zoc{l:Bytes}:Kp169.digits (l.takeWhile Kp169.digit)=(l.takeWhile Kp169.digit).length:=by
 unfold Kp169.digits
 rw[qkf.mpr]
 intro x hx
 induction l with
 |nil=>simp at hx
 |cons y l ih=>
  rw[qgk]at hx
  split at hx
  ·next h=>
   rcases qfo.mp hx with rfl|hx
   ·exact h
   ·exact ih hx
  ·simp at hx
theorem zy0{l z:Bytes}:Kp169.digits (l.takeWhile Kp169.digit++46::z.takeWhile Kp169.digit)=(l.takeWhile Kp169.digit).length+(z.takeWhile Kp169.digit).length:=by
 have h1:=zoc (l:=l)
 have h2:=zoc (l:=z)
 unfold Kp169.digits at h1 h2 ⊢
 rw[qjg,qfb,List.filter_cons,h1]
 have:Kp169.digit 46=false:=by decide
 rw[this]
 simp[h2]
def qe8:Bytes->Bool
 |46::_=>true
 |_=>false
theorem zym{l:Bytes}(h:qe8 l=true):∃r,l=46::r:=by
 unfold qe8 at h
 split at h
 ·exact⟨_,rfl⟩
 ·cases h
theorem qal(l:Bytes):decide (V.str (S (l.take 1))=V.str ".")=qe8 l:=by
 have e:(".":Str)=S [46]:=by decide +kernel
 rw[e]
 cases l with
 |nil=>exact decide_eq_false λz=>by have:=zqq (V.str.inj z);simp at this
 |cons c q=>
  by_cases h:c=46
  ·subst h;exact decide_eq_true rfl
  ·rw[decide_eq_false (λz=>by have:=zqq (V.str.inj z);simp at this;exact h this)]
   unfold qe8
   split
   ·next heq=>injection heq with h1 h2;exact absurd h1 h
   ·rfl
theorem ze4{x y:V}{H:Hp}{Q:VK}{i j n:Int}(hx:x=.int i)(hy:y=.int j)(e:i+j=n)(h:Q (V.int n) H):rI0 (λi j=>V.int (i+j)) x y H Q:=by subst e;exact⟨i,j,hx,hy,h⟩
theorem zl5{v:V}{σ:L2.St}{H:Hp}{Q:VK}(h:Q v H):tC v σ H Q:=h
theorem qcw{c:Nat}{r:Bytes}(hs:Kp169.small c=false)(hd:Kp169.digit c=true):zba (c::r)=match Kp169.numberAt (c::r) with
  |none=>none
  |some (w,_)=>if 15<Kp169.digits w then none else some ⟨1,w⟩:=by
 rw[zba,if_neg (by rw[hs];decide),if_pos hd] <;>
 cases Kp169.numberAt (c::r) <;> rfl
theorem zrj{l q:Bytes}(h:l.drop (l.takeWhile Kp169.digit).length=46::q):Kp169.numberAt l=if (q.takeWhile Kp169.digit).isEmpty then none else some (l.takeWhile Kp169.digit++46::q.takeWhile Kp169.digit,q.drop (q.takeWhile Kp169.digit).length):=by
 unfold Kp169.numberAt
 dsimp only
 rw[h]
 rfl
theorem zrk{l:Bytes}(h:qe8 (l.drop (l.takeWhile Kp169.digit).length)=false):Kp169.numberAt l=some (l.takeWhile Kp169.digit,l.drop (l.takeWhile Kp169.digit).length):=by
 unfold Kp169.numberAt
 dsimp only
 split
 ·next q e=>rw[e]at h;cases h
 ·rfl
section
variable{P:Program}{w:World}{K:qfa}{mg:Str->Option Value}{base:Heap}{ad:Ad}
theorem zxq(T:Txt K mg ad):Ok P w K mg base 4 "name_at" ["text","start"] (qc1 K ad Kp169.small):=by
 have O1:=zxl (P:=P) (w:=w) (base:=base) T
 have X1:=zdj (P:=P) (w:=w) (base:=base) T
 obtain⟨t1,hN⟩:=T.k_NAME_SIGNS
 obtain⟨t2,hL⟩:=T.k_LONGEST_NAME
 obtain⟨hW,hWs⟩:=T.k_WORDS
 refine T.f_name_at.ok T.M c_name_at (λvs H Q E h=>?_) (λf cdv A outer s0 H vs Q E hr h=>?_)
 ·obtain⟨b,i,c,rfl,_⟩:=h
  rfl
 ·obtain⟨b,i,c,rfl,hb,hi,hg,q⟩:=h
  have h1:Room 1 _:=hr.mono (by decide:1<=3)
  have hil:i<b.length:=(qfc.mp hi).1
  have hdrop:b.drop i=c::b.drop (i+1):=by rw[qf9 hil,(qfc.mp hi).2]
  refine⟨_,zad (zao (i:=2) c_name_at.nd rfl (Or.inl rfl) (zcx zwn (pv 0) (zcu (pv 1)) (zcu (cN O1 h1 zab (zaa (pv 0) (zaa (pv 1) (zaa (zat (v:=.str "abcdefghijklmnopqrstuvwxyz0123456789_") rfl hN ⟨_,rfl⟩) zae)))))))
   (zad (za9 (zar znt (za0 zc5 rfl T.z_len (by decide +kernel) (zaa (pv 2) zae)) (zat (v:=.int 16) rfl hL ⟨_,rfl⟩) (zaz _)) (zaf (zjc X1 hr zab)) zav)
   (zad (za9 (zar zku (pv 2) (zat (v:=.ref ad.WORDS) rfl hW rfl) rfl) (zaf (zaq (zkr (zaa (pv 2) (zaa (pv 2) zae))))) zav)
   (zaf (zaq (zkr (zaa zam (zaa (pv 2) zae)))))) ),?_⟩
  refine⟨_,rfl,_,rfl,_,rfl,_,rfl,_,rfl,b,i,_,Kp169.inName,rfl,hb,by lia,zwp,_,rfl,S b,rfl,by rw[zdy];exact big (by lia),?_⟩
  rw[zt6 b i _ (by lia),show i+((b.drop i).takeWhile Kp169.inName).length - i=((b.drop i).takeWhile Kp169.inName).length by lia,zbj]
  rw[hdrop]at q ⊢
  unfold zba at q
  dsimp only at q
  rw[hg]at q
  have wl:((c::b.drop (i+1)).takeWhile Kp169.inName).length<=100000:=by
   have:=za5 Kp169.inName (c::b.drop (i+1))
   simp only[qfd,qgj]at this
   lia
  generalize hw:(c::b.drop (i+1)).takeWhile Kp169.inName=wd at *
  refine⟨_,rfl,S wd,rfl,by rw[zdy];exact big (by lia),_,_,rfl,rfl,_,rfl,zb3 (λc1=>?_) (λc1=>?_)⟩
  ·have c1:(16:Int)<(((S wd).length:Nat):Int):=of_decide_eq_true c1
   rw[zdy]at c1
   rw[if_pos rfl,if_pos (by lia)]at q
   exact q
  have c1:¬(16:Int)<(((S wd).length:Nat):Int):=of_decide_eq_false (qga.mpr c1)
  rw[zdy]at c1
  rw[if_pos rfl,if_neg (by lia)]at q
  refine⟨_,rfl,ad.WORDS,_,rfl,.inr (hWs H),rfl,by decide +kernel,_,rfl,?_⟩
  show if inV (.str (S wd)) [V.str "unit",V.str "let",V.str "fn",V.str "if",V.str "then",V.str "else"]=true then _ else _
  rw[wordsV,zh0]
  unfold zj3 at q
  cases hc:Kp169.words.contains wd with
  |true=>
   rw[hc]at q
   refine⟨_,rfl,_,rfl,(by show 2<=sizeLine;decide),λp np=>?_⟩
   exact q p _ np (zaj np _) zac
  |false=>
   rw[hc]at q
   refine⟨_,rfl,(by show 2<=sizeLine;decide),λp np=>?_⟩
   refine q p _ np (zaj np _) ?_
   show upd _ _ _ _=_
   rw[zac]
   show some (HO.tup [.str "name",.str (S wd)])=some (HO.tup [.str (S zqk),.str (S wd)])
   rw[S_bName]
theorem zre(T:Txt K mg ad):Ok P w K mg base 4 "number_at" ["text","start"] (qc1 K ad λc=>!Kp169.small c && Kp169.digit c):=by
 have O1:=zxl (P:=P) (w:=w) (base:=base) T
 have X1:=zdj (P:=P) (w:=w) (base:=base) T
 obtain⟨t1,hN⟩:=T.k_DIGITS
 obtain⟨t2,hL⟩:=T.k_MOST_DIGITS
 obtain⟨t3,hP⟩:=T.k_POINT
 refine T.f_number_at.ok T.M c_number_at (λvs H Q E h=>?_) (λf cdv A outer s0 H vs Q E hr h=>?_)
 ·obtain⟨b,i,c,rfl,_⟩:=h
  rfl
 ·obtain⟨b,i,c,rfl,hb,hi,hg,q⟩:=h
  have h1:Room 1 _:=hr.mono (by decide:1<=3)
  have hil:i<b.length:=(qfc.mp hi).1
  have hdrop:b.drop i=c::b.drop (i+1):=by rw[qf9 hil,(qfc.mp hi).2]
  simp only[qft,qjm]at hg
  refine⟨_,zad (zao (i:=2) c_number_at.nd rfl (Or.inl rfl) (cN O1 h1 zab (zaa (pv 0) (zaa (pv 1) (zaa (zat (v:=.str "0123456789") rfl hN ⟨_,rfl⟩) zae)))))
   (zad (zao (i:=3) c_number_at.nd rfl (Or.inl rfl) (za8 zkt (pv 2) (pv 1)))
   (zad (za9 (zar zej (zcx zwn (pv 0) (zcu (pv 2)) (zcu (za8 zb8 (pv 2) zan))) (zat (v:=.str ".") rfl hP ⟨_,rfl⟩) (zaz _))
    (zad (zao (i:=4) c_number_at.nd rfl (Or.inl rfl) (za8 zb8 (pv 2) zan))
    (zad (zao (i:=2) c_number_at.nd rfl (Or.inl rfl) (cN O1 h1 zab (zaa (pv 0) (zaa (pv 4) (zaa (zat (v:=.str "0123456789") rfl hN ⟨_,rfl⟩) zae)))))
    (zad (za9 (zar zej (pv 2) (pv 4) (zaz _)) (zaf (zjc X1 hr zab)) zav)
    (zaf (zao (i:=3) c_number_at.nd rfl (Or.inl rfl) (za8 zkt (za8 zb8 (pv 3) (pv 2)) (pv 4)))))))
    zav)
   (zad (za9 (zar znt (pv 3) (zat (v:=.int 15) rfl hL ⟨_,rfl⟩) (zaz _)) (zaf (zjc X1 hr zab)) zav)
   (zaf (zaq (zkr (zaa zam (zaa (zcx zwn (pv 0) (zcu (pv 1)) (zcu (pv 2))) zae)))))))),?_⟩
  have hsz:(S b).length<=sizeLine:=by rw[zdy];exact big (by lia)
  have wle:=za5 Kp169.digit (b.drop i)
  rw[qgj]at wle
  rw[hdrop,qcw hg.1 hg.2,<-hdrop]at q
  have hdd:(b.drop i).drop ((b.drop i).takeWhile Kp169.digit).length=b.drop (i+((b.drop i).takeWhile Kp169.digit).length):=by rw[qie]
  have htk:=zbj Kp169.digit (b.drop i)
  have hpt:=λr=>zrj (l:=b.drop i) (q:=r)
  have hno:=zrk (l:=b.drop i)
  have hdw:=zoc (l:=b.drop i)
  have hdz:=λz=>zy0 (l:=b.drop i) (z:=z)
  have happ:(b.drop i).takeWhile Kp169.digit++(b.drop i).drop ((b.drop i).takeWhile Kp169.digit).length=b.drop i:=by
   conv=>lhs;lhs;rw[<-htk]
   exact qg6 _ _
  rw[hdd]at hno happ
  simp only[hdd]at hpt
  refine⟨_,rfl,_,rfl,b,i,_,Kp169.digit,rfl,hb,by lia,zic,?_⟩
  generalize hw:(b.drop i).takeWhile Kp169.digit=wd at *
  refine⟨_,rfl,_,rfl,zs5 rfl rfl (n:=(wd.length:Int)) (by lia) ?_⟩
  refine⟨_,rfl,_,rfl,_,rfl,_,rfl,zl5 (ze4 rfl rfl (n:=((i+wd.length+1:Nat):Int)) (by lia) ?_)⟩
  refine⟨_,rfl,S b,rfl,hsz,rfl,_,rfl,?_⟩
  rw[zt6 b _ _ (by lia),show i+wd.length+1 - (i+wd.length)=1 by lia,qal]
  cases hm:qe8 (b.drop (i+wd.length)) with
  |true=>
   obtain⟨r,hr46⟩:=zym hm
   have hlt:i+wd.length<b.length:=by
    have:=congrArg qh1 hr46
    simp only[qgj,qfd]at this
    lia
   have hr2:b.drop (i+wd.length+1)=r:=by
    rw[<-qie,hr46];rfl
   rw[hpt r hr46]at q
   have zle:=za5 Kp169.digit r
   have rlen:r.length=b.length - (i+wd.length+1):=by rw[<-hr2,qgj]
   refine⟨_,rfl,zl5 (ze4 rfl rfl (n:=((i+wd.length+1:Nat):Int)) (by lia) ?_)⟩
   refine⟨_,rfl,_,rfl,b,i+wd.length+1,_,Kp169.digit,rfl,hb,by lia,zic,?_⟩
   rw[hr2]
   refine⟨_,rfl,_,rfl,rfl,_,rfl,?_⟩
   rw[ztw]
   cases hz:r.takeWhile Kp169.digit with
   |nil=>
    rw[hz]at q
    rw[show (i+wd.length+1+([]:Bytes).length == i+wd.length+1)=true by simp]
    exact q
   |cons z0 zs=>
    rw[hz]at q
    have hdz2:=hdz r
    rw[hz]at hdz2 zle
    rw[show (i+wd.length+1+(z0::zs).length == i+wd.length+1)=false by simp]
    refine⟨_,rfl,_,rfl,ze4 rfl rfl (n:=((wd.length+(i+wd.length+1+(z0::zs).length):Nat):Int)) (by lia) ?_⟩
    refine⟨_,rfl,zs5 rfl rfl (n:=((wd.length+(z0::zs).length:Nat):Int)) (by lia) ?_⟩
    rw[if_neg (by simp)]at q
    dsimp only at q
    rw[hdz2]at q
    refine⟨_,rfl,_,_,rfl,rfl,_,rfl,zb3 (λc1=>?_) (λc1=>?_)⟩
    ·have c1:(15:Int)<((wd.length+(z0::zs).length:Nat):Int):=of_decide_eq_true c1
     rw[if_pos (by lia)]at q
     exact q
    have c1:¬(15:Int)<((wd.length+(z0::zs).length:Nat):Int):=of_decide_eq_false (qga.mpr c1)
    rw[if_neg (by lia)]at q
    refine⟨_,rfl,_,rfl,_,rfl,_,rfl,_,rfl,S b,rfl,hsz,?_⟩
    rw[zt6 b i _ (by lia)]
    refine⟨(by show 2<=sizeLine;decide),λp np=>?_⟩
    refine q p _ np (zaj np _) ?_
    show upd _ _ _ _=_
    rw[zac]
    have et:(b.drop i).take (i+wd.length+1+(z0::zs).length - i)=wd++46::(z0::zs):=by
     rw[<-happ,hr46,show i+wd.length+1+(z0::zs).length - i=wd.length+(1+(z0::zs).length) by lia,qju,qf4 (by lia)]
     rw[show wd.length+(1+(z0::zs).length) - wd.length=(z0::zs).length+1 by lia,List.take_succ_cons,<-hz,zbj]
    rw[et]
    show some (HO.tup [.str "number",_])=some (HO.tup [.str (S zc9),_])
    rw[S_bNumber]
  |false=>
   rw[hno hm]at q
   dsimp only at q
   rw[hdw]at q
   refine⟨_,rfl,_,_,rfl,rfl,_,rfl,zb3 (λc1=>?_) (λc1=>?_)⟩
   ·have c1:(15:Int)<(wd.length:Int):=of_decide_eq_true c1
    rw[if_pos (by lia)]at q
    exact q
   have c1:¬(15:Int)<(wd.length:Int):=of_decide_eq_false (qga.mpr c1)
   rw[if_neg (by lia)]at q
   refine⟨_,rfl,_,rfl,_,rfl,_,rfl,_,rfl,S b,rfl,hsz,?_⟩
   rw[zt6 b i _ (by lia),show i+wd.length - i=wd.length by lia,htk]
   refine⟨(by show 2<=sizeLine;decide),λp np=>?_⟩
   refine q p _ np (zaj np _) ?_
   show upd _ _ _ _=_
   rw[zac]
   show some (HO.tup [.str "number",_])=some (HO.tup [.str (S zc9),_])
   rw[S_bNumber]
end
def zz8(K:qfa)(ad:Ad):Sp:=λvs H Q E=>∃(b:Bytes),vs=[.str (S b)]/\b.length<=100000 ∧
 match zk7 b with
 |none=>zaw K ad.R E (-71) 0
 |some ts=>∀a rs H',H a=none->Same H H'->H' a=some (.lst (rs.map V.ref))->Paired (λp t=>zsf H' p t) rs ts->ts.length<=b.length->Q (.ref a) H'
def zz3(K:qfa)(ad:Ad):Sp:=λvs H Q E=>∃(p:Addr)(b:Bytes),vs=[.ref p]/\SqL K H p ((zn1 b).map V.int) ∧
 if 8192<b.length then zaw K ad.R E (-28) 0 else
 match Kp169.tokens b with
 |none=>zaw K ad.R E (-71) 0
 |some ts=>if 2048<ts.length then zaw K ad.R E (-28) 0 else ∀a rs H',H a=none->Same H H'->H' a=some (.lst (rs.map V.ref))->Paired (λp t=>zsf H' p t) rs ts->Q (.ref a) H'
theorem zev:∀{l:Bytes}{c:Nat}{r:Bytes},l.dropWhile zb4=c::r->zb4 c=false
 |[],c,r,h=>by simp at h
 |x::l,c,r,h=>by
  rw[qij]at h
  split at h
  ·exact zev h
  ·next hb=>injection h with h1 h2;subst h1;simpa using hb
section
variable{P:Program}{w:World}{K:qfa}{mg:Str->Option Value}{base:Heap}{ad:Ad}
theorem zuz(T:Txt K mg ad):Ok P w K mg base 5 "token_at" ["text","start"] (qc1 K ad λ_=>true):=by
 have O1:=zxq (P:=P) (w:=w) (base:=base) T
 have O2:=zre (P:=P) (w:=w) (base:=base) T
 have X1:=zdj (P:=P) (w:=w) (base:=base) T
 obtain⟨t1,hL⟩:=T.k_LETTERS
 obtain⟨t2,hD⟩:=T.k_DIGITS
 obtain⟨t3,hS⟩:=T.k_SIGNS
 refine T.f_token_at.ok T.M c_token_at (λvs H Q E h=>?_) (λf cdv A outer s0 H vs Q E hr h=>?_)
 ·obtain⟨b,i,c,rfl,_⟩:=h
  rfl
 ·obtain⟨b,i,c,rfl,hb,hi,hg,q⟩:=h
  have h3:Room 3 _:=hr.mono (by decide:3<=4)
  have hil:i<b.length:=(qfc.mp hi).1
  have hdrop:b.drop i=c::b.drop (i+1):=by rw[qf9 hil,(qfc.mp hi).2]
  have hsz:(S b).length<=sizeLine:=by rw[zdy];exact big (by lia)
  refine⟨_,zad (zao (i:=2) c_token_at.nd rfl (Or.inl rfl) (zdp qch (pv 0) (pv 1) (λ_ _=>rfl)))
   (zad (za9 (zar zf3 (pv 2) (zat (v:=.str "abcdefghijklmnopqrstuvwxyz") rfl hL ⟨_,rfl⟩) rfl) (zaf (zaq (cN O1 hr zab (zaa (pv 0) (zaa (pv 1) zae))))) zav)
   (zad (za9 (zar zf3 (pv 2) (zat (v:=.str "0123456789") rfl hD ⟨_,rfl⟩) rfl) (zaf (zaq (cN O2 hr zab (zaa (pv 0) (zaa (pv 1) zae))))) zav)
   (zad (za9 (zar zf3 (pv 2) (zat (v:=.str "(),;=+-*/^<") rfl hS ⟨_,rfl⟩) rfl) (zaf (zaq (zkr (zaa (pv 2) (zaa (pv 2) zae))))) zav)
   (zaf (zjc X1 h3 zab))))),?_⟩
  refine⟨_,rfl,_,rfl,S b,i,c,rfl,rfl,hsz,zez hi,?_⟩
  refine⟨_,rfl,c,_,rfl,rfl,_,rfl,?_⟩
  rw[zq6]
  cases h1:Kp169.small c with
  |true=>exact⟨_,rfl,_,rfl,b,i,c,rfl,hb,hi,h1,q⟩
  |false=>
   refine⟨_,rfl,c,_,rfl,rfl,_,rfl,?_⟩
   rw[zic]
   cases h2:Kp169.digit c with
   |true=>exact⟨_,rfl,_,rfl,b,i,c,rfl,hb,hi,by show (!Kp169.small c && Kp169.digit c)=true;rw[h1,h2];rfl,q⟩
   |false=>
    refine⟨_,rfl,c,_,rfl,rfl,_,rfl,?_⟩
    rw[zwo]
    rw[hdrop,zba,h1,h2]at q
    simp only[qfz,if_false]at q
    cases h3:Kp169.signs.contains c with
    |true=>
     rw[h3]at q
     refine⟨_,rfl,_,rfl,(by show 2<=sizeLine;decide),λp np=>?_⟩
     exact q p _ np (zaj np _) zac
    |false=>
     rw[h3]at q
     exact q
theorem zxm(T:Txt K mg ad):Ok P w K mg base 6 "parted" ["text"] (zz8 K ad):=by
 have O1:=zxl (P:=P) (w:=w) (base:=base) T
 have O2:=zuz (P:=P) (w:=w) (base:=base) T
 obtain⟨t1,hB⟩:=T.k_BLANKS
 refine T.f_parted.ok T.M c_parted (λvs H Q E h=>?_) (λf cdv A outer s0 H vs Q E hr h=>?_)
 ·obtain⟨b,rfl,_⟩:=h
  rfl
 ·obtain⟨b,rfl,hb,q⟩:=h
  have h1:Room 1 _:=hr.mono (by decide:1<=5)
  have hsz:(S b).length<=sizeLine:=by rw[zdy];exact big (by lia)
  refine⟨_,zad (zao (i:=1) c_parted.nd rfl (Or.inl rfl) (zbm zae))
   (zad (zao (i:=2) c_parted.nd rfl (Or.inl rfl) (cN O1 h1 zab (zaa (pv 0) (zaa zan (zaa (zat (v:=.str " \n") rfl hB ⟨_,rfl⟩) zae)))))
   (zad (zd4 zbk (zar op_lt (pv 2) (za0 zc5 rfl T.z_len (by decide +kernel) (zaa (pv 0) zae)) (zaz _))
    (zad (zao (i:=3) c_parted.nd rfl (Or.inl rfl) (cN O2 hr zab (zaa (pv 0) (zaa (pv 2) zae))))
    (zad (zal (zhr qf1 qgc qgd zbo (pv 1) (zaa (pv 3) zae)))
    (zaf (zao (i:=2) c_parted.nd rfl (Or.inl rfl) (cN O1 h1 zab (zaa (pv 0) (zaa (za8 zb8 (pv 2) (za0 zc5 rfl T.z_len (by decide +kernel) (zaa (zdp ze5 (pv 3) zan (λ_ _=>rfl)) zae))) (zaa (zat (v:=.str " \n") rfl hB ⟨_,rfl⟩) zae)))))))))
   (zaf (zaq (pv 1))))),?_⟩
  refine⟨(by show 0<=sizeLine;decide),λD nD=>?_⟩
  refine⟨_,rfl,b,0,_,zb4,rfl,hb,by lia,zmp,?_⟩
  have init:∃e:Nat,0+((b.drop 0).takeWhile zb4).length=e/\b.drop e=b.dropWhile zb4/\e<=b.length:=by
   refine⟨_,rfl,?_,?_⟩
   ·rw[Nat.zero_add,qhu,zj0]
   ·have:=za5 zb4 b
    simpa using this
  obtain⟨e0,ee0,ed0,el0⟩:=init
  rw[ee0]
  have lex0:zk7 b=(zk7 (b.drop e0)).map (λl=>[]++l):=by
   rw[ed0,zea]
   cases zk7 b <;> simp
  have hd0:∀c r,b.drop e0=c::r->zb4 c=false:=λc r h=>by rw[ed0]at h;exact zev h
  refine⟨λm σ H'=>∃(e:Nat)(ts:List zcv)(rs:List Addr)(v3:Option V),σ=[some (.str (S b)),some (.ref D),some (.int e),v3]/\Same H H'/\H' D=some (.lst (rs.map V.ref))/\Paired (λp t=>zsf H' p t) rs ts ∧
   e<=b.length/\zk7 b=(zk7 (b.drop e)).map (λl=>ts++l)/\(∀c r,b.drop e=c::r->zb4 c=false)/\ts.length<=e/\m=b.length - e,⟨_,e0,[],[],none,rfl,zaj nD _,zac,Paired.nil,el0,lex0,hd0,qg2 _,rfl⟩,?_⟩
  rintro m σ H' ⟨e,ts,rs,v3,rfl,s1,e1,P1,hel,hlex,hnb,hte,rfl⟩
  have rlen:rs.length=ts.length:=Paired.length P1
  refine⟨_,rfl,_,rfl,S b,rfl,hsz,_,_,rfl,rfl,_,rfl,zb3 (λc1=>?_) (λc1=>?_)⟩
  ·have c1:(e:Int)<(((S b).length:Nat):Int):=of_decide_eq_true c1
   rw[zdy]at c1
   have hlt:e<b.length:=by lia
   have hdrop:b.drop e=b[e]::b.drop (e+1):=qf9 hlt
   have hbl:=hnb _ _ hdrop
   rw[hdrop,zps hbl,<-hdrop]at hlex
   refine⟨λσ' H''=>∃(e2:Nat)(ts:List zcv)(rs:List Addr)(v3:Option V),σ'=[some (.str (S b)),some (.ref D),some (.int e2),v3]/\Same H H''/\H'' D=some (.lst (rs.map V.ref))/\Paired (λp t=>zsf H'' p t) rs ts ∧
    e2<=b.length/\zk7 b=(zk7 (b.drop e2)).map (λl=>ts++l)/\(∀c r,b.drop e2=c::r->zb4 c=false)/\ts.length<=e2/\e<e2,λσ' H'' ⟨e2,g1,g2,g3,g4,g5,g6,g7,g8,g9,g10,g11,g12⟩=>⟨b.length - e2,by lia,e2,g1,g2,g3,g4,g5,g6,g7,g8,g9,g10,g11,rfl⟩,?_⟩
   refine⟨_,rfl,_,rfl,b,e,b[e],rfl,hb,qf2 hlt,rfl,?_⟩
   cases ht:zba (b.drop e) with
   |none=>
    rw[ht]at hlex
    rw[hlex]at q
    exact q
   |some t=>
    rw[ht]at hlex
    obtain⟨tl1,tl2,tl3⟩:=zc0 ht
    rw[qgj]at tl3
    intro p H2 np s2 hp
    have pD:p≠D:=(zah e1 np).symm
    refine⟨_,rfl,.inl ⟨rfl,_,SqL.of (s2 _ _ e1)⟩,_,rfl,D,_,_,rfl,rfl,s2 _ _ e1,by rw[qe9];exact zhc (by lia),?_⟩
    refine⟨_,rfl,_,rfl,_,rfl,p,_,_,_,rfl,rfl,.inl (.inl (by rw[zai pD];exact hp)),rfl,S t.text,rfl,by rw[zdy];exact big (by lia),ze4 rfl rfl (n:=((e+t.text.length:Nat):Int)) (by rw[zdy];lia) ?_⟩
    refine⟨b,e+t.text.length,_,zb4,rfl,hb,by lia,zmp,?_⟩
    have run:∃e2:Nat,e+t.text.length+((b.drop (e+t.text.length)).takeWhile zb4).length=e2/\b.drop e2=(b.drop (e+t.text.length)).dropWhile zb4/\e2<=b.length:=by
     refine⟨_,rfl,?_,?_⟩
     ·rw[<-qie,zj0]
     ·have:=za5 zb4 (b.drop (e+t.text.length))
      rw[qgj]at this
      lia
    obtain⟨e2,ee2,ed2,el2⟩:=run
    rw[ee2]
    refine⟨e2,ts++[t],rs++[p],_,rfl,zay (s1.trans s2) nD _,by rw[zac,qfg];rfl,?_,el2,?_,λc r h=>by rw[ed2]at h;exact zev h,by simp;lia,by lia⟩
    ·refine zw4 (Paired.mapP P1 λq u h=>?_) (by show upd _ _ _ _=_;rw[zai pD];exact hp)
     show upd _ _ _ _=_
     rw[zai (zf9 (s2 _ _ h) (s2 _ _ e1) (by intro z;cases z))]
     exact s2 _ _ h
    ·dsimp only at hlex
     rw[qie]at hlex
     rw[hlex,ed2,zea]
     cases zk7 (b.drop (e+t.text.length)) <;> simp
  ·have c1:¬(e:Int)<(((S b).length:Nat):Int):=of_decide_eq_false (qga.mpr c1)
   rw[zdy]at c1
   have he2:e=b.length:=by lia
   rw[he2,qhi,zts]at hlex
   simp only[qfy,qgb]at hlex
   rw[hlex]at q
   exact⟨_,rfl,q D rs H' nD s1 e1 P1 (by lia)⟩
theorem zxg(T:Txt K mg ad):Ok P w K mg base 7 "tokens_of" ["t"] (zz3 K ad):=by
 have O1:=qd1 (P:=P) (w:=w) (base:=base) T
 have O2:=zxm (P:=P) (w:=w) (base:=base) T
 have X1:=zf4 (P:=P) (w:=w) (base:=base) T
 obtain⟨t1,hM⟩:=T.k_MOST_BYTES
 obtain⟨t2,hN⟩:=T.k_MOST_TOKENS
 refine T.f_tokens_of.ok T.M c_tokens_of (λvs H Q E h=>?_) (λf cdv A outer s0 H vs Q E hr h=>?_)
 ·obtain⟨p,b,rfl,_⟩:=h
  rfl
 ·obtain⟨p,b,rfl,hp,q⟩:=h
  have h1:Room 1 _:=hr.mono (by decide:1<=6)
  have h3:Room 3 _:=hr.mono (by decide:3<=6)
  refine⟨_,zad (za9 (zar znt (za0 za3 rfl T.z_len (by decide +kernel) (zaa (pv 0) zae)) (zat (v:=.int 8192) rfl hM ⟨_,rfl⟩) (zaz _)) (zaf (znr X1 h3 zab zan)) zav)
   (zad (zao (i:=1) c_tokens_of.nd rfl (Or.inl rfl) (cN O2 hr zab (zaa (cN O1 h1 zab (zaa (pv 0) zae)) zae)))
   (zad (za9 (zar znt (za0 za3 rfl T.z_len (by decide +kernel) (zaa (pv 1) zae)) (zat (v:=.int 2048) rfl hN ⟨_,rfl⟩) (zaz _)) (zaf (znr X1 h3 zab zan)) zav)
   (zaf (zaq (pv 1))))),?_⟩
  refine⟨_,rfl,p,_,rfl,.inl hp,_,_,rfl,rfl,_,rfl,zb3 (λc1=>?_) (λc1=>?_)⟩
  ·have c1:(8192:Int)<((((zn1 b).map V.int).length:Nat):Int):=of_decide_eq_true c1
   rw[qe9,qe9]at c1
   rw[if_pos (by lia)]at q
   exact⟨0,rfl,q⟩
  have c1:¬(8192:Int)<((((zn1 b).map V.int).length:Nat):Int):=of_decide_eq_false (qga.mpr c1)
  rw[qe9,qe9]at c1
  rw[if_neg (by lia),zi5]at q
  refine⟨_,rfl,p,b,rfl,hp,by lia,λH1 s1=>?_⟩
  refine⟨b.map zcr,rfl,by rw[qe9];lia,?_⟩
  cases hl:zk7 (b.map zcr) with
  |none=>rw[hl]at q;exact q
  |some ts=>
   rw[hl]at q
   dsimp only at q
   intro a rs H2 na s2 ea P2 _
   have rlen:rs.length=ts.length:=Paired.length P2
   refine⟨_,rfl,a,_,rfl,.inl (SqL.of ea),_,_,rfl,rfl,_,rfl,zb3 (λc2=>?_) (λc2=>?_)⟩
   ·have c2:(2048:Int)<(((rs.map V.ref).length:Nat):Int):=of_decide_eq_true c2
    rw[qe9]at c2
    rw[if_pos (by lia)]at q
    exact⟨0,rfl,q⟩
   have c2:¬(2048:Int)<(((rs.map V.ref).length:Nat):Int):=of_decide_eq_false (qga.mpr c2)
   rw[qe9]at c2
   rw[if_neg (by lia)]at q
   exact⟨_,rfl,q a rs H2 (s1.free na) (s1.trans s2) ea P2⟩
end
open Kp169 (Bytes isTok eat nameAt bytesOf)
def rf(lt:Addr)(n:Int)(ls:Addr):List (Str×V):=[("tokens",.ref lt),("position",.int n),("steps",.ref ls)]
abbrev Stp(H:Hp)(t:Addr)(x:Sx):Prop:=H t=some (.tup (sxV x))
structure RAt(ad:Ad)(H:Hp)(rd dx lt ls:Addr)(ras:List Addr)(all:List zcv)(n:Nat)(xs:List Sx)(sts:List Addr):Prop where
 ob:H rd=some (.ins ad.Reader dx (rf lt n ls))
 tk:H lt=some (.lst (ras.map V.ref))
 ne:lt≠ls
 tok:∀(j:Nat)(t:zcv),all[j]?=some t->∃a,ras[j]?=some a/\zsf H a t
 en:∃a,ras[all.length]?=some a/\H a=some (.tup [.str "end",.str ""])
 st:H ls=some (.lst (sts.map V.ref))
 ps:Paired (λt x=>Stp H t x) sts xs
 le:n<=all.length
 fine:∀t∈all,zlr t
 few:all.length<=10000
def F2(H H':Hp)(a b:Addr):Prop:=∀c o,H c=some o->c≠a->c≠b->H' c=some o
theorem F1.f2{H H':Hp}{a:Addr}(f:F1 H H' a)(b:Addr):F2 H H' a b:=λc o h n _=>f c o h n
theorem qco:S qcm=("end":Str):=by decide +kernel
section
variable{ad:Ad}{H:Hp}{rd dx lt ls:Addr}{ras:List Addr}{all:List zcv}{n:Nat}{xs:List Sx}{sts:List Addr}
theorem RAt.toSame{H':Hp}(R:RAt ad H rd dx lt ls ras all n xs sts)(s:Same H H'):RAt ad H' rd dx lt ls ras all n xs sts:=
 ⟨s _ _ R.ob,s _ _ R.tk,R.ne,λj t h=>by obtain⟨a,h1,h2⟩:=R.tok j t h;exact⟨a,h1,s _ _ h2⟩,by obtain⟨a,h1,h2⟩:=R.en;exact⟨a,h1,s _ _ h2⟩,s _ _ R.st,Paired.mapP R.ps λ_ _ q=>s _ _ q,R.le,R.fine,R.few⟩
theorem RAt.at(R:RAt ad H rd dx lt ls ras all n xs sts):∃a w,ras[n]?=some a/\H a=some (.tup [.str (S (zb2 (all.drop n))),.str w])/\∀t r,all.drop n=t::r->w=S t.text:=by
 cases h:all.drop n with
 |nil=>
  have:n=all.length:=by have:=congrArg qh1 h;simp at this;have:=R.le;lia
  subst this
  obtain⟨a,h1,h2⟩:=R.en
  exact⟨a,_,h1,by rw[h2,<-qco];rfl,λt r z=>by cases z⟩
 |cons t r=>
  have hn:n<all.length:=by have:=congrArg qh1 h;simp at this;lia
  have ht:all[n]?=some t:=by
   rw[qf9 hn]at h
   injection h with h1 h2
   rw[qf2 hn,h1]
  obtain⟨a,h1,h2⟩:=R.tok n t ht
  exact⟨a,_,h1,h2,λu q z=>by injection z with z1 z2;rw[z1]⟩
theorem RAt.move(R:RAt ad H rd dx lt ls ras all n xs sts){m:Nat}(hm:m<=all.length):RAt ad (upd H rd (.ins ad.Reader dx (rf lt m ls))) rd dx lt ls ras all m xs sts:=by
 have k:∀{c:Addr}{o:HO},H c=some o->(∀C d fs,o≠.ins C d fs)->upd H rd (.ins ad.Reader dx (rf lt m ls)) c=some o:=λ{c o} e z=>by
  rw[zai (λy=>by subst y;rw[R.ob]at e;cases e;exact z _ _ _ rfl)];exact e
 exact⟨zac,k R.tk (λ_ _ _ z=>nomatch z),R.ne,λj t h=>by obtain⟨a,h1,h2⟩:=R.tok j t h;exact⟨a,h1,k h2 (λ_ _ _ z=>nomatch z)⟩,by obtain⟨a,h1,h2⟩:=R.en;exact⟨a,h1,k h2 (λ_ _ _ z=>nomatch z)⟩,k R.st (λ_ _ _ z=>nomatch z),Paired.mapP R.ps λ_ _ q=>k q (λ_ _ _ z=>nomatch z),hm,R.fine,R.few⟩
theorem RAt.put(R:RAt ad H rd dx lt ls ras all n xs sts){T:Addr}{x:Sx}(hT:Stp H T x):RAt ad (upd H ls (.lst (sts.map V.ref++[.ref T]))) rd dx lt ls ras all n (xs++[x]) (sts++[T]):=by
 have k:∀{c:Addr}{o:HO},H c=some o->(∀l,o≠.lst l)->upd H ls (.lst (sts.map V.ref++[.ref T])) c=some o:=λ{c o} e z=>by
  rw[zai (λy=>by subst y;rw[R.st]at e;cases e;exact z _ rfl)];exact e
 refine⟨k R.ob (λ_ z=>nomatch z),by rw[zai R.ne];exact R.tk,R.ne,λj t h=>by obtain⟨a,h1,h2⟩:=R.tok j t h;exact⟨a,h1,k h2 (λ_ z=>nomatch z)⟩,by obtain⟨a,h1,h2⟩:=R.en;exact⟨a,h1,k h2 (λ_ z=>nomatch z)⟩,by rw[zac,qfg];rfl,?_,R.le,R.fine,R.few⟩
 exact zw4 (Paired.mapP R.ps λ_ _ q=>k q (λ_ z=>nomatch z)) (k hT (λ_ z=>nomatch z))
theorem RAt.slen(R:RAt ad H rd dx lt ls ras all n xs sts):sts.length=xs.length:=Paired.length R.ps
theorem RAt.in1(R:RAt ad H rd dx lt ls ras all n xs sts):In1 (all.drop n):=⟨λt ht=>R.fine t (qfv ht),by have:=R.few;simp;lia⟩
theorem RAt.oks(R:RAt ad H rd dx lt ls ras all n xs sts):∀t∈all.drop n,ziy t:=λt ht=>(R.fine t (qfv ht)).ok
end
def qdk(ad:Ad):Sp:=λvs H Q _=>∃(rd dx lt ls:Addr)(ras:List Addr)(all:List zcv)(n:Nat)(xs:List Sx)(sts:List Addr),vs=[.ref rd]/\RAt ad H rd dx lt ls ras all n xs sts/\Q (.str (S (zb2 (all.drop n)))) H
def spTake(K:qfa)(ad:Ad):Sp:=λvs H Q E=>∃(rd dx lt ls:Addr)(ras:List Addr)(all:List zcv)(n:Nat)(xs:List Sx)(sts:List Addr)(z:Str)(w:Bytes),vs=[.ref rd,.str z]/\RAt ad H rd dx lt ls ras all n xs sts/\z=S w/\w≠qcm ∧
 (zb2 (all.drop n)=w->∀H' t r,all.drop n=t::r->RAt ad H' rd dx lt ls ras all (n+1) xs sts->F1 H H' rd->Q (.str (S t.text)) H')/\(zb2 (all.drop n)≠w->zaw K ad.R E (-71) 0)
def zz4(ad:Ad):Sp:=λvs H Q E=>∃(rd dx lt ls:Addr)(ras:List Addr)(all:List zcv)(n:Nat)(xs:List Sx)(sts:List Addr)(z:Str)(w:Bytes),vs=[.ref rd,.str z]/\RAt ad H rd dx lt ls ras all n xs sts/\z=S w/\w≠qcm ∧
 (zb2 (all.drop n)=w->∀H',RAt ad H' rd dx lt ls ras all (n+1) xs sts->F1 H H' rd->Q (.bl true) H')/\(zb2 (all.drop n)≠w->Q (.bl false) H)
def spPut(ad:Ad):Sp:=λvs H Q E=>∃(rd dx lt ls:Addr)(ras:List Addr)(all:List zcv)(n:Nat)(xs:List Sx)(sts:List Addr)(x:Sx),vs=[.ref rd,.str (sxW x),.str (sxN x),.int (sxI x)]/\RAt ad H rd dx lt ls ras all n xs sts/\xs.length<=100000 ∧
 ∀H' sts',RAt ad H' rd dx lt ls ras all n (xs++[x]) sts'->F1 H H' ls->Q .non H'
theorem zia(a b:Bytes):decide (V.str (S a)=V.str (S b))=decide (a=b):=by
 rw[decide_eq_decide]
 exact⟨λh=>zqq (V.str.inj h),λh=>by rw[h]⟩
section
variable{P:Program}{w:World}{K:qfa}{mg:Str->Option Value}{base:Heap}{ad:Ad}
theorem zjw(T:Txt K mg ad):OkM P w K mg base 1 ad.Reader "ahead" ["self"] (qdk ad):=by
 refine T.m_Reader_ahead.ok T.l_Reader zmf (λvs H Q E h=>?_) (λf cdv A outer s H vs Q E hr h=>?_)
 ·obtain⟨rd,dx,lt,ls,ras,all,n,xs,sts,rfl,_⟩:=h
  rfl
 ·obtain⟨rd,dx,lt,ls,ras,all,n,xs,sts,rfl,R,q⟩:=h
  obtain⟨a,wd,h1,h2,h3⟩:=R.at
  refine⟨_,zaf (zaq (zdp ze5 (zdp zew (zas (pv 0) rfl) (zas (pv 0) rfl) (λ_ _=>rfl)) zan (λ_ _=>rfl))),?_⟩
  exact⟨_,rfl,rd,ad.Reader,dx,_,_,rfl,R.ob,T.l_Reader,T.n_Reader_tokens,rfl,_,rfl,rd,ad.Reader,dx,_,_,rfl,R.ob,T.l_Reader,T.n_Reader_position,rfl,lt,_,_,_,rfl,rfl,SqL.of R.tk,zez (by rw[qfe,h1];rfl),a,_,_,_,rfl,rfl,.inl (.inl h2),rfl,q⟩
theorem znv(T:Txt K mg ad):OkM P w K mg base 4 ad.Reader "take" ["self","sort"] (spTake K ad):=by
 have X1:=zdj (P:=P) (w:=w) (base:=base) T
 refine T.m_Reader_take.ok T.l_Reader c_Reader_take (λvs H Q E h=>?_) (λf cdv A outer s H vs Q E hr h=>?_)
 ·obtain⟨rd,dx,lt,ls,ras,all,n,xs,sts,z,wd,rfl,_⟩:=h
  rfl
 ·obtain⟨rd,dx,lt,ls,ras,all,n,xs,sts,z,wd,rfl,R,rfl,hw,q1,q2⟩:=h
  obtain⟨a,wt,h1,h2,h3⟩:=R.at
  refine⟨_,zad (zao (i:=2) c_Reader_take.nd rfl (Or.inl rfl) (zdp zew (zas (pv 0) rfl) (zas (pv 0) rfl) (λ_ _=>rfl)))
   (zad (za9 (zar zpk (zdp ze5 (pv 2) zan (λ_ _=>rfl)) (pv 1) (zaz _)) (zaf (zjc X1 hr zab)) zav)
   (zad (zb7 (pv 0) (za8 zb8 (zas (pv 0) rfl) zan) rfl)
   (zaf (zaq (zdp ze5 (pv 2) zan (λ_ _=>rfl)))))),?_⟩
  refine⟨_,rfl,rd,ad.Reader,dx,_,_,rfl,R.ob,T.l_Reader,T.n_Reader_tokens,rfl,_,rfl,rd,ad.Reader,dx,_,_,rfl,R.ob,T.l_Reader,T.n_Reader_position,rfl,lt,_,_,_,rfl,rfl,SqL.of R.tk,zez (by rw[qfe,h1];rfl),?_⟩
  refine⟨_,rfl,a,_,_,_,rfl,rfl,.inl (.inl h2),rfl,_,rfl,rfl,_,rfl,?_⟩
  rw[zia]
  by_cases hc:zb2 (all.drop n)=wd
  ·rw[decide_eq_true hc]
   cases hd:all.drop n with
   |nil=>rw[hd]at hc;exact absurd hc.symm hw
   |cons t r=>
    have hn:n<all.length:=by have:=congrArg qh1 hd;simp at this;lia
    have R2:=R.move (m:=n+1) (by lia)
    refine⟨_,rfl,rd,ad.Reader,dx,_,_,rfl,R.ob,T.l_Reader,T.n_Reader_position,rfl,zl5 (ze4 rfl rfl (n:=((n+1:Nat):Int)) (by lia) ?_)⟩
    refine⟨_,rfl,rd,ad.Reader,dx,_,rfl,R.ob,T.l_Reader,T.n_Reader_position,(by show 3<1000;decide),?_⟩
    have ha:a≠rd:=zf9 h2 R.ob (by intro z;cases z)
    refine⟨_,rfl,a,_,_,_,rfl,rfl,.inl (.inl (by rw[zai ha];exact h2)),rfl,?_⟩
    rw[h3 t r hd]
    exact q1 hc _ t r hd R2 (zp7 _ _ _)
  ·rw[decide_eq_false hc]
   exact q2 hc
theorem zxj(T:Txt K mg ad):OkM P w K mg base 2 ad.Reader "take_if" ["self","sort"] (zz4 ad):=by
 have O1:=zjw (P:=P) (w:=w) (base:=base) T
 refine T.m_Reader_take_if.ok T.l_Reader zjo (λvs H Q E h=>?_) (λf cdv A outer s H vs Q E hr h=>?_)
 ·obtain⟨rd,dx,lt,ls,ras,all,n,xs,sts,z,wd,rfl,_⟩:=h
  rfl
 ·obtain⟨rd,dx,lt,ls,ras,all,n,xs,sts,z,wd,rfl,R,rfl,hw,q1,q2⟩:=h
  refine⟨_,zad (za9 (zar zpk (cM0 O1 hr zab (pv 0)) (pv 1) (zaz _)) (zaf (zaq zpg)) zav)
   (zad (zb7 (pv 0) (za8 zb8 (zas (pv 0) rfl) zan) rfl)
   (zaf (zaq zpg))),?_⟩
  refine⟨_,rfl,rd,dx,_,rfl,R.ob,rfl,rd,dx,lt,ls,ras,all,n,xs,sts,rfl,R,_,rfl,rfl,_,rfl,?_⟩
  rw[zia]
  by_cases hc:zb2 (all.drop n)=wd
  ·rw[decide_eq_true hc]
   cases hd:all.drop n with
   |nil=>rw[hd]at hc;exact absurd hc.symm hw
   |cons t r=>
    have hn:n<all.length:=by have:=congrArg qh1 hd;simp at this;lia
    have R2:=R.move (m:=n+1) (by lia)
    refine⟨_,rfl,rd,ad.Reader,dx,_,_,rfl,R.ob,T.l_Reader,T.n_Reader_position,rfl,zl5 (ze4 rfl rfl (n:=((n+1:Nat):Int)) (by lia) ?_)⟩
    refine⟨_,rfl,rd,ad.Reader,dx,_,rfl,R.ob,T.l_Reader,T.n_Reader_position,(by show 3<1000;decide),?_⟩
    exact q1 hc _ R2 (zp7 _ _ _)
  ·rw[decide_eq_false hc]
   exact q2 hc
theorem zm7(T:Txt K mg ad):OkM P w K mg base 1 ad.Reader "put" ["self","action","name","number"] (spPut ad):=by
 refine T.m_Reader_put.ok T.l_Reader zqe (λvs H Q E h=>?_) (λf cdv A outer s H vs Q E hr h=>?_)
 ·obtain⟨rd,dx,lt,ls,ras,all,n,xs,sts,x,rfl,_⟩:=h
  rfl
 ·obtain⟨rd,dx,lt,ls,ras,all,n,xs,sts,x,rfl,R,hl,q⟩:=h
  refine⟨_,zaf (zal (zhr qf1 qgc qgd zbo (zas (pv 0) rfl) (zaa (zkr (zaa (pv 1) (zaa (pv 2) (zaa (pv 3) zae)))) zae))),?_⟩
  refine⟨_,rfl,rd,ad.Reader,dx,_,_,rfl,R.ob,T.l_Reader,T.n_Reader_steps,rfl,.inl ⟨rfl,_,SqL.of R.st⟩,_,rfl,_,rfl,_,rfl,(by show 3<=sizeLine;decide),λp np=>?_⟩
  have s1:=zaj (o:=HO.tup (sxV x)) np
  have R1:=R.toSame s1
  refine⟨ls,_,_,rfl,rfl,R1.st,by rw[qe9,R.slen];exact zhc (by lia),?_⟩
  exact q _ _ (R1.put zac) (Same.f1 s1 (zp7 _ _ _))
end
open Kp169 (Bytes isTok eat nameAt bytesOf number)
theorem _root_.L2.OkM.imp{P:Program}{w:World}{K:qfa}{mg:Str->Option Value}{base:Heap}{k:Nat}{C:Addr}{m:Str}{ps:List Str}{sp sp':Sp}(O:OkM P w K mg base k C m ps sp)(h:∀vs H Q E,sp' vs H Q E->sp vs H Q E):OkM P w K mg base k C m ps sp':=by
 obtain⟨c,f,fd,h1,h2,F⟩:=O
 exact⟨c,f,fd,h1,h2,F.imp h⟩
theorem _root_.L2.OkM.mono{P:Program}{w:World}{K:qfa}{mg:Str->Option Value}{base:Heap}{j k:Nat}{C:Addr}{m:Str}{ps:List Str}{sp:Sp}(O:OkM P w K mg base j C m ps sp)(h:j<=k):OkM P w K mg base k C m ps sp:=by
 obtain⟨c,f,fd,h1,h2,F⟩:=O
 exact⟨c,f,fd,h1,h2,F.mono h⟩
structure Wd(w:String):Prop where
 s:Str.ofString w=S (bytesOf w)
 p:zzi (bytesOf w)
theorem w_if:Wd "if":=⟨by decide +kernel,by decide +kernel,by decide +kernel,by decide +kernel⟩
theorem w_lt:Wd "<":=⟨by decide +kernel,by decide +kernel,by decide +kernel,by decide +kernel⟩
theorem w_then:Wd "then":=⟨by decide +kernel,by decide +kernel,by decide +kernel,by decide +kernel⟩
theorem w_else:Wd "else":=⟨by decide +kernel,by decide +kernel,by decide +kernel,by decide +kernel⟩
theorem w_plus:Wd "+":=⟨by decide +kernel,by decide +kernel,by decide +kernel,by decide +kernel⟩
theorem zqz:Wd "-":=⟨by decide +kernel,by decide +kernel,by decide +kernel,by decide +kernel⟩
theorem w_star:Wd "*":=⟨by decide +kernel,by decide +kernel,by decide +kernel,by decide +kernel⟩
theorem w_over:Wd "/":=⟨by decide +kernel,by decide +kernel,by decide +kernel,by decide +kernel⟩
theorem w_hat:Wd "^":=⟨by decide +kernel,by decide +kernel,by decide +kernel,by decide +kernel⟩
theorem zwa:Wd "(":=⟨by decide +kernel,by decide +kernel,by decide +kernel,by decide +kernel⟩
theorem zj6:Wd ")":=⟨by decide +kernel,by decide +kernel,by decide +kernel,by decide +kernel⟩
theorem zwb:Wd ",":=⟨by decide +kernel,by decide +kernel,by decide +kernel,by decide +kernel⟩
theorem qb2:Wd ";":=⟨by decide +kernel,by decide +kernel,by decide +kernel,by decide +kernel⟩
theorem w_eq:Wd "=":=⟨by decide +kernel,by decide +kernel,by decide +kernel,by decide +kernel⟩
theorem w_unit:Wd "unit":=⟨by decide +kernel,by decide +kernel,by decide +kernel,by decide +kernel⟩
theorem w_let:Wd "let":=⟨by decide +kernel,by decide +kernel,by decide +kernel,by decide +kernel⟩
theorem w_fn:Wd "fn":=⟨by decide +kernel,by decide +kernel,by decide +kernel,by decide +kernel⟩
theorem qb4{p:Nat->Bool}:∀{l:List Nat},(∀c∈l,p c=true)->l.takeWhile p=l
 |[],_=>rfl
 |c::l,h=>by rw[qgk,if_pos (h c (by simp)),qb4 λd hd=>h d (by simp[hd])]
theorem zyz{p:Nat->Bool}:∀{l:List Nat},¬(∀c∈l,p c=true)->∃y r,l.dropWhile p=y::r/\p y=false
 |[],h=>absurd (λc hc=>by simp at hc) h
 |c::l,h=>by
  rw[qij]
  cases hc:p c with
  |true=>
   rw[if_pos rfl]
   refine zyz λz=>h λd hd=>?_
   rcases qfo.mp hd with rfl|hd
   ·exact hc
   ·exact z d hd
  |false=>exact⟨c,l,rfl,hc⟩
theorem zz1{x:Str}:V.str x=V.str ""↔x.cps.size=0:=by
 constructor
 ·intro h;rw[V.str.inj h];rfl
 ·intro h
  obtain⟨a⟩:=x
  have:a=#[]:=Array.eq_empty_of_size_eq_zero h
  subst this
  exact congrArg V.str (by decide +kernel)
theorem zq4(x:Str):decide (V.str (PySem.Txt.stripChars x "0")=V.str "")=decide (∀c∈x.cps.toList,c=48):=by
 have hg:∀c,("0":Str).cps.contains c=(c == 48):=λc=>by
  have:("0":Str).cps=#[48]:=by decide +kernel
  rw[this];simp;rfl
 have hsz:x.cps.toList.length=x.cps.size:=by simp
 have hlen:x.length=x.cps.size:=rfl
 rw[decide_eq_decide,zz1]
 unfold PySem.Txt.stripChars PySem.Txt.stripBy PySem.stripSame PySem.stripped PySem.stripHi PySem.stripLo
 simp only[if_true]
 by_cases ha:∀c∈x.cps.toList,("0":Str).cps.contains c=true
 ·have ha':∀c∈x.cps.toList,c=48:=λc hc=>by have:=ha c hc;rw[hg]at this;simpa using this
  refine⟨λ_=>ha',λ_=>?_⟩
  rw[qb4 ha,hsz,qho (by lia)]
  split
  ·next h=>
   simp only[qft,beq_iff_eq]at h
   exact h.1
  ·show (x.cps.extract _ _).size=0
   simp
 ·refine⟨λh=>?_,λh=>absurd (λc hc=>by rw[hg,h c hc];rfl) ha⟩
  exfalso
  obtain⟨y,r,hd,hy⟩:=zyz ha
  have hdl:x.cps.toList.drop (x.cps.toList.takeWhile ("0":Str).cps.contains).length=y::r:=by rw[zj0,hd]
  have hl:=congrArg qh1 hdl
  simp only[qgj,qfd]at hl
  have ht:((y::r).reverse.takeWhile ("0":Str).cps.contains).length<=r.length:=by
   rw[List.reverse_cons,List.takeWhile_append]
   split
   ·rw[qgk,hy];simp
   ·have:=za5 ("0":Str).cps.contains r.reverse
    simpa using this
  rw[hdl]at h
  split at h
  ·lia
  ·have h:(x.cps.extract _ _).size=0:=h
   rw[Array.size_extract]at h
   rw[hlen]at h
   lia
theorem zzv{w:Bytes}(hw:∀c∈w,Kp169.digit c=true\/c=46):decide (V.str (PySem.Txt.stripChars (PySem.Txt.replace (S w) "." "") "0")=V.str "")=decide ((number w).1=0):=by
 rw[zq4,decide_eq_decide,zri]
 have e1:(".":Str)=⟨#[46]⟩:=by decide +kernel
 have e2:("":Str)=⟨#[]⟩:=by decide +kernel
 rw[e1,e2,PyProof.Rows.replace_strikes]
 constructor
 ·intro h c hc hd
  refine h c (qg9.mpr ⟨hc,?_⟩)
  have:c≠46:=λz=>by subst z;revert hd;decide
  simpa using this
 ·intro h c hc
  obtain⟨h1,h2⟩:=qg9.mp hc
  rcases hw c h1 with hd|hd
  ·exact h c h1 hd
  ·subst hd;exact absurd h2 (by decide)
def spEat(K:qfa)(ad:Ad):Sp:=λvs H Q E=>∃(rd dx lt ls:Addr)(ras:List Addr)(all:List zcv)(n:Nat)(xs:List Sx)(sts:List Addr)(w:String),vs=[.ref rd,.str (Str.ofString w)]/\RAt ad H rd dx lt ls ras all n xs sts/\Wd w ∧
 match eat w (all.drop n) with
 |none=>zaw K ad.R E (-71) 0
 |some r=>∀H' v,RAt ad H' rd dx lt ls ras all (n+1) xs sts->all.drop (n+1)=r->F1 H H' rd->Q v H'
def qdg(ad:Ad):Sp:=λvs H Q E=>∃(rd dx lt ls:Addr)(ras:List Addr)(all:List zcv)(n:Nat)(xs:List Sx)(sts:List Addr)(w:String),vs=[.ref rd,.str (Str.ofString w)]/\RAt ad H rd dx lt ls ras all n xs sts/\Wd w ∧
 match eat w (all.drop n) with
 |none=>Q (.bl false) H
 |some r=>∀H',RAt ad H' rd dx lt ls ras all (n+1) xs sts->all.drop (n+1)=r->F1 H H' rd->Q (.bl true) H'
def spName(K:qfa)(ad:Ad):Sp:=λvs H Q E=>∃(rd dx lt ls:Addr)(ras:List Addr)(all:List zcv)(n:Nat)(xs:List Sx)(sts:List Addr),vs=[.ref rd,.str "name"]/\RAt ad H rd dx lt ls ras all n xs sts ∧
 match nameAt (all.drop n) with
 |none=>zaw K ad.R E (-71) 0
 |some x=>∀H',RAt ad H' rd dx lt ls ras all (n+1) xs sts->F1 H H' rd->Q (.str (S x)) H'
def spNum(K:qfa)(ad:Ad):Sp:=λvs H Q E=>∃(rd dx lt ls:Addr)(ras:List Addr)(all:List zcv)(n:Nat)(xs:List Sx)(sts:List Addr),vs=[.ref rd,.str "number"]/\RAt ad H rd dx lt ls ras all n xs sts ∧
 (∀t r,all.drop n=t::r->t.kind=1->∀H',RAt ad H' rd dx lt ls ras all (n+1) xs sts->F1 H H' rd->Q (.str (S t.text)) H')/\((∀t r,all.drop n=t::r->t.kind≠1)->zaw K ad.R E (-71) 0)
theorem zft{w:String}{ts:List zcv}(h:∀t∈ts,ziy t)(hw:Wd w):eat w ts=if zb2 ts=bytesOf w then some (ts.drop 1) else none:=by
 unfold eat
 by_cases hi:isTok w ts=true
 ·rw[if_pos hi,if_pos ((zpx h hw.p).mp hi)]
 ·rw[if_neg hi,if_neg λz=>hi ((zpx h hw.p).mpr z)]
theorem zbp{α:Type}(l:List α)(n:Nat):l.drop (n+1)=(l.drop n).drop 1:=by rw[qie]
section
variable{P:Program}{w:World}{K:qfa}{mg:Str->Option Value}{base:Heap}{ad:Ad}
theorem zm8(T:Txt K mg ad):OkM P w K mg base 4 ad.Reader "take" ["self","sort"] (spEat K ad):=(znv T).imp λvs H Q E ⟨rd,dx,lt,ls,ras,all,n,xs,sts,w,h1,R,hw,q⟩=>by
 refine⟨rd,dx,lt,ls,ras,all,n,xs,sts,Str.ofString w,bytesOf w,h1,R,hw.s,hw.p.2.2,λhc H' t r hd R' f'=>?_,λhc=>?_⟩
 ·rw[zft R.oks hw,if_pos hc]at q
  exact q H' _ R' (zbp all n) f'
 ·rw[zft R.oks hw,if_neg hc]at q
  exact q
theorem zd5(T:Txt K mg ad):OkM P w K mg base 2 ad.Reader "take_if" ["self","sort"] (qdg ad):=(zxj T).imp λvs H Q E ⟨rd,dx,lt,ls,ras,all,n,xs,sts,w,h1,R,hw,q⟩=>by
 refine⟨rd,dx,lt,ls,ras,all,n,xs,sts,Str.ofString w,bytesOf w,h1,R,hw.s,hw.p.2.2,λhc H' R' f'=>?_,λhc=>?_⟩
 ·rw[zft R.oks hw,if_pos hc]at q
  exact q H' R' (zbp all n) f'
 ·rw[zft R.oks hw,if_neg hc]at q
  exact q
theorem znu(T:Txt K mg ad):OkM P w K mg base 4 ad.Reader "take" ["self","sort"] (spName K ad):=(znv T).imp λvs H Q E ⟨rd,dx,lt,ls,ras,all,n,xs,sts,h1,R,q⟩=>by
 refine⟨rd,dx,lt,ls,ras,all,n,xs,sts,"name",zqk,h1,R,S_bName.symm,by decide,λhc H' t r hd R' f'=>?_,λhc=>?_⟩
 ·rw[hd]at hc q
  have hk:t.kind=0:=(zvu (R.oks t (by rw[hd];simp))).mp hc
  simp only[Kp169.nameAt,hk,if_true]at q
  exact q H' R' f'
 ·have:nameAt (all.drop n)=none:=by
   cases e:nameAt (all.drop n) with
   |none=>rfl
   |some x=>exact absurd ((zu3 R.oks).mp ⟨x,e⟩) hc
  rw[this]at q
  exact q
theorem zxh(T:Txt K mg ad):OkM P w K mg base 4 ad.Reader "take" ["self","sort"] (spNum K ad):=(znv T).imp λvs H Q E ⟨rd,dx,lt,ls,ras,all,n,xs,sts,h1,R,q1,q2⟩=>by
 refine⟨rd,dx,lt,ls,ras,all,n,xs,sts,"number",zc9,h1,R,S_bNumber.symm,by decide,λhc H' t r hd R' f'=>?_,λhc=>?_⟩
 ·rw[hd]at hc
  have hk:t.kind=1:=(zep (R.oks t (by rw[hd];simp))).mp hc
  exact q1 t r hd hk H' R' f'
 ·refine q2 λt r hd hk=>hc ?_
  rw[hd]
  exact (zep (R.oks t (by rw[hd];simp))).mpr hk
end
def qaa(ad:Ad):Sp:=λvs H Q E=>∃(rd dx lt ls:Addr)(ras:List Addr)(all:List zcv)(n:Nat)(xs:List Sx)(sts:List Addr)(t:zcv)(r:List zcv),vs=[.ref rd]/\RAt ad H rd dx lt ls ras all n xs sts/\all.drop n=t::r/\t.kind=1/\xs.length<=50000 ∧
 ∀H' sts',RAt ad H' rd dx lt ls ras all (n+1) (xs++za7 (.num (number t.text).1 (number t.text).2)) sts'->F2 H H' rd ls->Q .non H'
section
variable{P:Program}{w:World}{K:qfa}{mg:Str->Option Value}{base:Heap}{ad:Ad}
theorem zxo(T:Txt K mg ad):OkM P w K mg base 5 ad.Reader "read_number" ["self"] (qaa ad):=by
 have O1:=zxh (P:=P) (w:=w) (base:=base) T
 have O2:=zm7 (P:=P) (w:=w) (base:=base) T
 refine T.m_Reader_read_number.ok T.l_Reader c_Reader_read_number (λvs H Q E h=>?_) (λf cdv A outer s H vs Q E hr h=>?_)
 ·obtain⟨rd,dx,lt,ls,ras,all,n,xs,sts,t,r,rfl,_⟩:=h
  rfl
 ·obtain⟨rd,dx,lt,ls,ras,all,n,xs,sts,t,r,rfl,R,hd,hk,hx,q⟩:=h
  have h1:Room 1 _:=hr.mono (by decide:1<=4)
  refine⟨_,zad (zao (i:=1) c_Reader_read_number.nd rfl (Or.inl rfl) (qdw (cMt O1 hr zab (pv 0))))
   (zaf (za9 (zar zej (pe_m1 PySem.F.slot_str_strip PySem.F.type_str_strip zx3 (pv 1) zam) zam (zaz _))
    (zaf (zal (cM O2 h1 zab (pv 0) (zaa zam (zaa zam (zaa zan zae))))))
    (zaf (zal (cM O2 h1 zab (pv 0) (zaa zam (zaa zam (zaa zan zae)))))))),?_⟩
  have ft:=R.fine t (qfv (by rw[hd];simp))
  refine⟨_,rfl,rd,dx,_,rfl,R.ob,rfl,rd,dx,lt,ls,ras,all,n,xs,sts,rfl,R,λt' r' hd' hk' H1 R1 f1=>?_,λhno=>absurd hk (hno t r hd)⟩
  rw[hd]at hd'
  injection hd' with e1 e2
  subst e1
  refine⟨_,rfl,by decide +kernel,?_,?_⟩
  ·have:("":Str).length=0:=rfl
   rw[this,zdy]
   have:=ft.len
   lia
  refine⟨_,rfl,⟨_,rfl⟩,_,_,rfl,rfl,?_,rfl,_,rfl,?_⟩
  ·have e1:(".":Str)=⟨#[46]⟩:=by decide +kernel
   have e2:("":Str)=⟨#[]⟩:=by decide +kernel
   rw[e1,e2]
   have h:=congrArg qh1 (PyProof.Rows.replace_strikes (S t.text) 46)
   have h2:=qkb (· != 46) (S t.text).cps.toList
   have h3:(S t.text).cps.toList.length=t.text.length:=by simp[S]
   have h4:(PySem.Txt.replace (S t.text) ⟨#[46]⟩ ⟨#[]⟩).length=(PySem.Txt.replace (S t.text) ⟨#[46]⟩ ⟨#[]⟩).cps.toList.length:=by simp[Str.length]
   have:=ft.len
   rw[h4,h]
   exact big (by lia)
  rw[zzv (ft.num hk)]
  have ecomp:za7 (.num (number t.text).1 (number t.text).2)=[if (number t.text).1=0 then .zero else .number]:=by simp only[za7]
  rw[ecomp]at q
  by_cases hz:(number t.text).1=0
  ·rw[decide_eq_true hz]
   rw[if_pos hz]at q
   refine⟨_,rfl,rd,dx,_,rfl,R1.ob,rfl,rd,dx,lt,ls,ras,all,n+1,xs,sts,.zero,rfl,R1,by lia,λH2 sts2 R2 f2=>?_⟩
   exact q H2 sts2 R2 λc o h n1 n2=>f2 _ _ (f1 _ _ h n1) n2
  ·rw[decide_eq_false hz]
   rw[if_neg hz]at q
   refine⟨_,rfl,rd,dx,_,rfl,R1.ob,rfl,rd,dx,lt,ls,ras,all,n+1,xs,sts,.number,rfl,R1,by lia,λH2 sts2 R2 f2=>?_⟩
   exact q H2 sts2 R2 λc o h n1 n2=>f2 _ _ (f1 _ _ h n1) n2
end
open Kp169 (Bytes isTok eat bytesOf number pExpr pSum pSumRest pTerm pTermRest pPower pFactor pArgs pMore power)
abbrev KE:=Kp169.E
def spG(K:qfa)(ad:Ad)(d rk:Nat)(pf:Nat->Nat->List zcv->Option (KE×List zcv)):Sp:=λvs H Q E=>∃(rd dx lt ls:Addr)(ras:List Addr)(all:List zcv)(n:Nat)(xs:List Sx)(sts:List Addr)(f:Nat),vs=[.ref rd,.int d]/\RAt ad H rd dx lt ls ras all n xs sts ∧
 xs.length+(all.drop n).length<=20000/\16*(all.drop n).length+rk<=f ∧
 if 32<d then zaw K ad.R E (-71) 0 else
 match pf f d (all.drop n) with
 |none=>zaw K ad.R E (-71) 0
 |some p=>∀H' n' sts',RAt ad H' rd dx lt ls ras all n' (xs++za7 p.1) sts'->all.drop n'=p.2->F2 H H' rd ls->Q .non H'
def qb6(K:qfa)(ad:Ad)(d rk:Nat):Sp:=λvs H Q E=>∃(rd dx lt ls:Addr)(ras:List Addr)(all:List zcv)(n:Nat)(xs:List Sx)(sts:List Addr)(f:Nat),vs=[.ref rd,.int d]/\RAt ad H rd dx lt ls ras all n xs sts ∧
 xs.length+(all.drop n).length<=20000/\16*(all.drop n).length+rk<=f ∧
 match pArgs f d (all.drop n) with
 |none=>zaw K ad.R E (-71) 0
 |some p=>∀H' n' sts',RAt ad H' rd dx lt ls ras all n' (xs++zdx p.1) sts'->all.drop n'=p.2->F2 H H' rd ls->Q (.int (p.1.list.length:Nat)) H'
theorem zfr{a f:Nat}(h:a+1<=f):∃g,f=g+1/\a<=g:=⟨f - 1,by lia,by lia⟩
section
variable{P:Program}{w:World}{K:qfa}{mg:Str->Option Value}{base:Heap}{ad:Ad}
theorem qea(T:Txt K mg ad)(d j:Nat)(hj:4<=j){spA:Sp}(OA:OkM P w K mg base j ad.Reader "read_arguments" ["self","depth"] spA)(hA:∀vs H Q E,qb6 K ad (d+1) 7 vs H Q E->spA vs H Q E) :
  OkM P w K mg base (j+1) ad.Reader "read_name" ["self","depth"] (λvs H Q E=>d<=32/\spG K ad d 0 zrc vs H Q E):=by
 have O1:=znu (P:=P) (w:=w) (base:=base) T
 have O2:=zd5 (P:=P) (w:=w) (base:=base) T
 have O3:=zm7 (P:=P) (w:=w) (base:=base) T
 refine T.m_Reader_read_name.ok T.l_Reader c_Reader_read_name (λvs H Q E h=>?_) (λf cdv A outer s H vs Q E hr h=>?_)
 ·obtain⟨_,rd,dx,lt,ls,ras,all,n,xs,sts,f,rfl,_⟩:=h
  rfl
 ·obtain⟨hd32,rd,dx,lt,ls,ras,all,n,xs,sts,f,rfl,R,hx,hf,q⟩:=h
  have h4:Room 4 _:=hr.mono hj
  have h2:Room 2 _:=hr.mono (by lia:2<=j)
  have h1:Room 1 _:=hr.mono (by lia:1<=j)
  rw[if_neg (by lia)]at q
  unfold zrc at q
  refine⟨_,zad (zao (i:=2) c_Reader_read_name.nd rfl (Or.inl rfl) (cM O1 h4 zab (pv 0) (zaa zam zae)))
   (zaf (za9 (zcf (cM O2 h2 zab (pv 0) (zaa zam zae)))
    (zaf (zal (cM O3 h1 zab (pv 0) (zaa zam (zaa (pv 2) (zaa (cM OA hr zab (pv 0) (zaa (za8 zb8 (pv 1) zan) zae)) zae))))))
    (zaf (zal (cM O3 h1 zab (pv 0) (zaa zam (zaa (pv 2) (zaa zan zae)))))))),?_⟩
  refine⟨_,rfl,rd,dx,_,rfl,R.ob,rfl,rd,dx,lt,ls,ras,all,n,xs,sts,rfl,R,?_⟩
  cases hn:Kp169.nameAt (all.drop n) with
  |none=>rw[hn]at q;exact q
  |some x=>
   rw[hn]at q
   dsimp only at q ⊢
   intro H1 R1 f1
   rw[<-zbp]at q
   have l1:(all.drop (n+1)).length+1=(all.drop n).length:=by
    have:all.drop n≠[]:=λz=>by rw[z]at hn;simp[Kp169.nameAt]at hn
    have:=List.length_pos_iff.mpr this
    simp at this ⊢;lia
   refine⟨_,rfl,rd,dx,_,rfl,R1.ob,rfl,rd,dx,lt,ls,ras,all,n+1,xs,sts,"(",rfl,R1,zwa,?_⟩
   cases he:eat "(" (all.drop (n+1)) with
   |none=>
    rw[he]at q
    dsimp only at q ⊢
    refine⟨_,rfl,?_⟩
    refine⟨_,rfl,rd,dx,_,rfl,R1.ob,rfl,_,rfl,rd,dx,lt,ls,ras,all,n+1,xs,sts,.name x,rfl,R1,by lia,λH2 sts2 R2 f2=>?_⟩
    exact q H2 (n+1) sts2 R2 rfl λc o h n1 n2=>f2 _ _ (f1 _ _ h n1) n2
   |some r=>
    rw[he]at q
    dsimp only at q ⊢
    intro H2 R2 hd2 f2
    have l2:r.length+1=(all.drop (n+1)).length:=zap he
    refine⟨_,rfl,?_⟩
    refine⟨_,rfl,rd,dx,_,rfl,R2.ob,rfl,_,rfl,_,rfl,rd,dx,_,rfl,R2.ob,rfl,_,rfl,zl5 (ze4 rfl rfl (n:=((d+1:Nat):Int)) (by lia) ?_)⟩
    refine hA _ _ _ _ ⟨rd,dx,lt,ls,ras,all,n+2,xs,sts,f,rfl,R2,by rw[hd2];lia,by rw[hd2];lia,?_⟩
    rw[hd2]
    cases hp:pArgs f (d+1) r with
    |none=>rw[hp]at q;exact q
    |some p=>
     rw[hp]at q
     dsimp only[qfy]at q ⊢
     intro H3 n3 sts3 R3 hd3 f3
     have g:=((gd f).args _ _ _ _ (by have:=R2.in1;rw[hd2]at this;exact this) hp).1
     have gl:=g.len
     refine⟨rd,dx,lt,ls,ras,all,n3,xs++zdx p.1,sts3,.call x p.1.list.length,rfl,R3,by rw[qfb];lia,λH4 sts4 R4 f4=>?_⟩
     refine q H4 n3 sts4 (by simp only[za7];rw[<-qf7];exact R4) hd3 λc o h n1 n2=>f4 _ _ (f3 _ _ (f2 _ _ (f1 _ _ h n1) n1) n1 n2) n2
end
theorem zux{g d:Nat}{ts:List zcv}(hd:32<d):pExpr g d ts=none:=by
 cases g with
 |zero=>simp[pExpr]
 |succ g=>rw[ztf,if_pos hd]
theorem zfs{g d:Nat}{ts:List zcv}{A:Prop}{B:KE×List zcv->Prop}(h:match pExpr g d ts with|none=>A|some p=>B p):if 32<d then A else match pExpr g d ts with|none=>A|some p=>B p:=by
 by_cases hd:32<d
 ·rw[if_pos hd];rw[zux hd]at h;exact h
 ·rw[if_neg hd];exact h
section
variable{P:Program}{w:World}{K:qfa}{mg:Str->Option Value}{base:Heap}{ad:Ad}
theorem qef(T:Txt K mg ad)(d j:Nat)(hj:4<=j){spE:Sp}(OE:OkM P w K mg base j ad.Reader "read_expression" ["self","depth"] spE)(hE:∀vs H Q E,spG K ad d 5 pExpr vs H Q E->spE vs H Q E) :
  OkM P w K mg base (j+1) ad.Reader "read_arguments" ["self","depth"] (qb6 K ad d 7):=by
 have O1:=zm8 (P:=P) (w:=w) (base:=base) T
 have O2:=zd5 (P:=P) (w:=w) (base:=base) T
 refine T.m_Reader_read_arguments.ok T.l_Reader c_Reader_read_arguments (λvs H Q E h=>?_) (λf cdv A outer s H vs Q E hr h=>?_)
 ·obtain⟨rd,dx,lt,ls,ras,all,n,xs,sts,f,rfl,_⟩:=h
  rfl
 ·obtain⟨rd,dx,lt,ls,ras,all,n,xs,sts,f,rfl,R,hx,hf,q⟩:=h
  have h4:Room 4 _:=hr.mono hj
  have h2:Room 2 _:=hr.mono (by lia:2<=j)
  obtain⟨g,rfl,hg⟩:=zfr hf
  rw[qar]at q
  refine⟨_,zad (za9 (zcf (cM O2 h2 zab (pv 0) (zaa zam zae))) (zaf (zaq zan)) zav)
   (zad (zal (cM OE hr zab (pv 0) (zaa (pv 1) zae)))
   (zad (zao (i:=2) c_Reader_read_arguments.nd rfl (Or.inl rfl) zan)
   (zad (zd4 zbk (zcf (cM O2 h2 zab (pv 0) (zaa zam zae)))
    (zad (zal (cM OE hr zab (pv 0) (zaa (pv 1) zae)))
    (zaf (zao (i:=2) c_Reader_read_arguments.nd rfl (Or.inl rfl) (za8 zb8 (pv 2) zan)))))
   (zad (zal (cM O1 h4 zab (pv 0) (zaa zam zae)))
   (zaf (zaq (pv 2))))))),?_⟩
  refine⟨_,rfl,rd,dx,_,rfl,R.ob,rfl,rd,dx,lt,ls,ras,all,n,xs,sts,")",rfl,R,zj6,?_⟩
  cases he:eat ")" (all.drop n) with
  |some r=>
   rw[he]at q
   dsimp only at q ⊢
   intro H1 R1 hd1 f1
   exact⟨_,rfl,q H1 (n+1) sts (by simp only[zdx,qgb];exact R1) hd1 (f1.f2 _)⟩
  |none=>
   rw[he]at q
   dsimp only at q ⊢
   obtain⟨g',rfl,hg'⟩:=zfr hg
   rw[ztd]at q
   refine⟨_,rfl,?_⟩
   refine⟨_,rfl,rd,dx,_,rfl,R.ob,rfl,_,rfl,hE _ _ _ _ ⟨rd,dx,lt,ls,ras,all,n,xs,sts,g',rfl,R,hx,hg',zfs ?_⟩⟩
   cases hp:pExpr g' d (all.drop n) with
   |none=>rw[hp]at q;exact q
   |some p=>
    rw[hp]at q
    dsimp only at q ⊢
    intro H1 n1 sts1 R1 hd1 f1
    have G:=(gd g').expr _ _ _ _ R.in1 hp
    have gl:=G.len
    have gs:=(shr g').expr _ _ _ _ hp
    refine⟨λm σ H'=>∃(n':Nat)(xs':List Sx)(sts':List Addr)(f' k:Nat),σ=[some (.ref rd),some (.int d),some (.int k)]/\RAt ad H' rd dx lt ls ras all n' xs' sts'/\F2 H H' rd ls/\xs'.length+(all.drop n').length<=20000/\16*(all.drop n').length+6<=f' ∧
     (match zq2 f' d (all.drop n') with
      |none=>zaw K ad.R E (-71) 0
      |some l=>∀H'' n'' sts'',RAt ad H'' rd dx lt ls ras all n'' (xs'++zdx l.1) sts''->all.drop n''=l.2->F2 H H'' rd ls->Q (.int ((k+l.1.list.length:Nat):Int)) H'')/\m=(all.drop n').length,⟨_,n1,xs++za7 p.1,sts1,g',1,rfl,R1,f1,?_,?_,?_,rfl⟩,?_⟩
    ·rw[hd1,qfb];lia
    ·rw[hd1];lia
    ·rw[hd1]
     cases ht:zq2 g' d p.2 with
     |none=>rw[ht]at q;exact q
     |some l=>
      rw[ht]at q
      dsimp only[qfy]at q ⊢
      intro H2 n2 sts2 R2 hd2 f2
      have:=q H2 n2 sts2 (by simp only[zdx];rw[<-qf7];exact R2) hd2 f2
      simp only[Kp169.Es.list,qfd]at this
      rw[qka]
      exact this
    ·rintro m σ H2 ⟨n2,xs2,sts2,f2,k,rfl,R2,F2',hx2,hf2,q2,rfl⟩
     unfold zq2 at q2
     refine⟨_,rfl,rd,dx,_,rfl,R2.ob,rfl,rd,dx,lt,ls,ras,all,n2,xs2,sts2,",",rfl,R2,zwb,?_⟩
     cases hc:eat "," (all.drop n2) with
     |some c=>
      rw[hc]at q2
      dsimp only at q2 ⊢
      intro H3 R3 hd3 f3
      have lc:=zap hc
      refine⟨_,rfl,?_⟩
      obtain⟨f2',rfl,hf2'⟩:=zfr hf2
      rw[ztd]at q2
      refine⟨λσ' H'=>∃(n':Nat)(xs':List Sx)(sts':List Addr)(f' k:Nat),σ'=[some (.ref rd),some (.int d),some (.int k)]/\RAt ad H' rd dx lt ls ras all n' xs' sts'/\F2 H H' rd ls/\xs'.length+(all.drop n').length<=20000/\16*(all.drop n').length+6<=f' ∧
       (match zq2 f' d (all.drop n') with
        |none=>zaw K ad.R E (-71) 0
        |some l=>∀H'' n'' sts'',RAt ad H'' rd dx lt ls ras all n'' (xs'++zdx l.1) sts''->all.drop n''=l.2->F2 H H'' rd ls->Q (.int ((k+l.1.list.length:Nat):Int)) H'')/\(all.drop n').length<(all.drop n2).length,
       λσ' H' ⟨n',xs',sts',f',k,a1,a2,a3,a4,a5,a6,a7⟩=>⟨_,a7,n',xs',sts',f',k,a1,a2,a3,a4,a5,a6,rfl⟩,?_⟩
      refine⟨_,rfl,rd,dx,_,rfl,R3.ob,rfl,_,rfl,hE _ _ _ _ ⟨rd,dx,lt,ls,ras,all,n2+1,xs2,sts2,f2',rfl,R3,by rw[hd3];lia,by rw[hd3];lia,zfs ?_⟩⟩
      rw[hd3]
      cases hp2:pExpr f2' d c with
      |none=>rw[hp2]at q2;exact q2
      |some p2=>
       rw[hp2]at q2
       dsimp only at q2 ⊢
       intro H4 n4 sts4 R4 hd4 f4
       have G2:=(gd f2').expr _ _ _ _ (by have:=R3.in1;rw[hd3]at this;exact this) hp2
       have gl2:=G2.len
       have gs2:=(shr f2').expr _ _ _ _ hp2
       refine⟨_,rfl,zl5 (ze4 rfl rfl (n:=((k+1:Nat):Int)) (by lia) ?_)⟩
       refine⟨n4,xs2++za7 p2.1,sts4,f2',k+1,rfl,R4,λc o h a1 a2=>f4 _ _ (f3 _ _ (F2' _ _ h a1 a2) a1) a1 a2,?_,?_,?_,?_⟩
       ·rw[hd4,qfb];lia
       ·rw[hd4];lia
       ·rw[hd4]
        cases ht:zq2 f2' d p2.2 with
        |none=>rw[ht]at q2;exact q2
        |some l=>
         rw[ht]at q2
         dsimp only[qfy]at q2 ⊢
         intro H5 n5 sts5 R5 hd5 f5
         have:=q2 H5 n5 sts5 (by simp only[zdx];rw[<-qf7];exact R5) hd5 f5
         simp only[Kp169.Es.list,qfd]at this
         rw[show k+1+l.1.list.length=k+(l.1.list.length+1) by lia]
         exact this
       ·rw[hd4];lia
     |none=>
      rw[hc]at q2
      dsimp only at q2 ⊢
      refine⟨_,rfl,?_⟩
      refine⟨_,rfl,rd,dx,_,rfl,R2.ob,rfl,rd,dx,lt,ls,ras,all,n2,xs2,sts2,")",rfl,R2,zj6,?_⟩
      cases hcl:eat ")" (all.drop n2) with
      |none=>rw[hcl]at q2;exact q2
      |some z=>
       rw[hcl]at q2
       dsimp only[qfy]at q2 ⊢
       intro H3 v R3 hd3 f3
       refine⟨_,rfl,?_⟩
       have:=q2 H3 (n2+1) sts2 (by simp only[zdx,qgb];exact R3) hd3 λc o h a1 a2=>f3 _ _ (F2' _ _ h a1 a2) a1
       simp only[Kp169.Es.list,qf5,qks]at this
       exact this
theorem zpn(T:Txt K mg ad)(d j:Nat)(hj:5<=j){spF spE spN:Sp}(OF:OkM P w K mg base j ad.Reader "read_factor" ["self","depth"] spF)(OE:OkM P w K mg base j ad.Reader "read_expression" ["self","depth"] spE)(ON:OkM P w K mg base j ad.Reader "read_name" ["self","depth"] spN)(hF:d<=32->∀vs H Q E,spG K ad (d+1) 1 pFactor vs H Q E->spF vs H Q E)(hE:d<=32->∀vs H Q E,spG K ad (d+1) 5 pExpr vs H Q E->spE vs H Q E)(hN:d<=32->∀vs H Q E,spG K ad d 0 zrc vs H Q E->spN vs H Q E) :
  OkM P w K mg base (j+1) ad.Reader "read_factor" ["self","depth"] (spG K ad d 1 pFactor):=by
 have O1:=zm8 (P:=P) (w:=w) (base:=base) T
 have O2:=zd5 (P:=P) (w:=w) (base:=base) T
 have O3:=zjw (P:=P) (w:=w) (base:=base) T
 have O4:=zxo (P:=P) (w:=w) (base:=base) T
 have X1:=zdj (P:=P) (w:=w) (base:=base) T
 obtain⟨t1,hD⟩:=T.k_DEEPEST
 refine T.m_Reader_read_factor.ok T.l_Reader zdg (λvs H Q E h=>?_) (λf cdv A outer s H vs Q E hr h=>?_)
 ·obtain⟨rd,dx,lt,ls,ras,all,n,xs,sts,f,rfl,_⟩:=h
  rfl
 ·obtain⟨rd,dx,lt,ls,ras,all,n,xs,sts,f,rfl,R,hx,hf,q⟩:=h
  have h5:Room 5 _:=hr.mono hj
  have h4:Room 4 _:=hr.mono (by lia:4<=j)
  have h3:Room 3 _:=hr.mono (by lia:3<=j)
  have h2:Room 2 _:=hr.mono (by lia:2<=j)
  have h1:Room 1 _:=hr.mono (by lia:1<=j)
  refine⟨_,zad (za9 (zar znt (pv 1) (zat (v:=.int 32) rfl hD ⟨_,rfl⟩) (zaz _)) (zaf (zjc X1 h3 zab)) zav)
   (zaf (za9 (zcf (cM O2 h2 zab (pv 0) (zaa zam zae)))
    (zaf (zal (cM OF hr zab (pv 0) (zaa (za8 zb8 (pv 1) zan) zae))))
    (zaf (za9 (zcf (cM O2 h2 zab (pv 0) (zaa zam zae)))
     (zad (zal (cM OE hr zab (pv 0) (zaa (za8 zb8 (pv 1) zan) zae)))
      (zaf (zal (cM O1 h4 zab (pv 0) (zaa zam zae)))))
     (zaf (za9 (zar zej (cM0 O3 h1 zab (pv 0)) zam (zaz _))
      (zaf (zal (cM0 O4 h5 zab (pv 0))))
      (zaf (zal (cM ON hr zab (pv 0) (zaa (pv 1) zae)))))))))),?_⟩
  refine⟨_,rfl,_,_,rfl,rfl,_,rfl,zb3 (λc1=>?_) (λc1=>?_)⟩
  ·have c1:(32:Int)<(d:Int):=of_decide_eq_true c1
   rw[if_pos (by lia)]at q
   exact q
  have c1:¬(32:Int)<(d:Int):=of_decide_eq_false (qga.mpr c1)
  have hd32:d<=32:=by lia
  rw[if_neg (by lia)]at q
  obtain⟨g,rfl,hg⟩:=zfr hf
  rw[zuw g d _ R.oks]at q
  refine⟨_,rfl,rd,dx,_,rfl,R.ob,rfl,rd,dx,lt,ls,ras,all,n,xs,sts,"-",rfl,R,zqz,?_⟩
  cases hm:eat "-" (all.drop n) with
  |some r=>
   rw[hm]at q
   dsimp only at q ⊢
   intro H1 R1 hd1 f1
   have lr:=zap hm
   refine⟨_,rfl,?_⟩
   refine⟨_,rfl,rd,dx,_,rfl,R1.ob,rfl,_,rfl,zl5 (ze4 rfl rfl (n:=((d+1:Nat):Int)) (by lia) ?_)⟩
   refine hF hd32 _ _ _ _ ⟨rd,dx,lt,ls,ras,all,n+1,xs,sts,g,rfl,R1,by rw[hd1];lia,by rw[hd1];lia,?_⟩
   rw[hd1]
   by_cases h32:32<=d
   ·rw[if_pos h32]at q
    rw[if_pos (by lia)]
    exact q
   ·rw[if_neg h32]at q
    rw[if_neg (by lia)]
    cases hp:pFactor g (d+1) r with
    |none=>rw[hp]at q;exact q
    |some p=>
     rw[hp]at q
     dsimp only[qfy]at q ⊢
     intro H2 n2 sts2 R2 hd2 f2
     exact q H2 n2 sts2 (by simp only[za7];exact R2) hd2 λc o h a1 a2=>f2 _ _ (f1 _ _ h a1) a1 a2
  |none=>
   rw[hm]at q
   dsimp only at q ⊢
   refine⟨_,rfl,?_⟩
   refine⟨_,rfl,rd,dx,_,rfl,R.ob,rfl,rd,dx,lt,ls,ras,all,n,xs,sts,"(",rfl,R,zwa,?_⟩
   cases ho:eat "(" (all.drop n) with
   |some r=>
    rw[ho]at q
    dsimp only at q ⊢
    intro H1 R1 hd1 f1
    have lr:=zap ho
    refine⟨_,rfl,?_⟩
    refine⟨_,rfl,rd,dx,_,rfl,R1.ob,rfl,_,rfl,zl5 (ze4 rfl rfl (n:=((d+1:Nat):Int)) (by lia) ?_)⟩
    refine hE hd32 _ _ _ _ ⟨rd,dx,lt,ls,ras,all,n+1,xs,sts,g,rfl,R1,by rw[hd1];lia,by rw[hd1];lia,zfs ?_⟩
    rw[hd1]
    cases hp:pExpr g (d+1) r with
    |none=>rw[hp]at q;exact q
    |some p=>
     rw[hp]at q
     dsimp only at q ⊢
     intro H2 n2 sts2 R2 hd2 f2
     refine⟨_,rfl,rd,dx,_,rfl,R2.ob,rfl,rd,dx,lt,ls,ras,all,n2,_,sts2,")",rfl,R2,zj6,?_⟩
     rw[hd2]
     cases hc:eat ")" p.2 with
     |none=>rw[hc]at q;exact q
     |some z=>
      rw[hc]at q
      dsimp only[qfy]at q ⊢
      intro H3 v R3 hd3 f3
      exact q H3 (n2+1) sts2 R3 hd3 λc o h a1 a2=>f3 _ _ (f2 _ _ (f1 _ _ h a1) a1 a2) a1
   |none=>
    rw[ho]at q
    dsimp only at q ⊢
    refine⟨_,rfl,?_⟩
    refine⟨_,rfl,rd,dx,_,rfl,R.ob,rfl,rd,dx,lt,ls,ras,all,n,xs,sts,rfl,R,rfl,_,rfl,?_⟩
    rw[<-S_bNumber,zia]
    by_cases hk:zb2 (all.drop n)=zc9
    ·rw[decide_eq_true hk]
     rw[if_pos hk]at q
     cases hdr:all.drop n with
     |nil=>rw[hdr]at hk;exact absurd hk (by decide)
     |cons t r=>
      rw[hdr]at hk q
      have kk:t.kind=1:=(zep (R.oks t (by rw[hdr];simp))).mp hk
      have ln:(all.drop n).length=r.length+1:=by rw[hdr];rfl
      dsimp only[zxz]at q
      refine⟨_,rfl,rd,dx,_,rfl,R.ob,rfl,rd,dx,lt,ls,ras,all,n,xs,sts,t,r,rfl,R,hdr,kk,by lia,λH1 sts1 R1 f1=>?_⟩
      exact q H1 (n+1) sts1 R1 (by rw[zbp,hdr];rfl) f1
    ·rw[decide_eq_false hk]
     rw[if_neg hk]at q
     refine⟨_,rfl,rd,dx,_,rfl,R.ob,rfl,_,rfl,hN hd32 _ _ _ _ ⟨rd,dx,lt,ls,ras,all,n,xs,sts,g,rfl,R,hx,?_,?_⟩⟩
     ·lia
     ·rw[if_neg (by lia)]
      exact q
end
theorem zp8:∀c:Nat,49<=c->c<=57->PySem.intText? (S [c])=some ((c:Int) - 48):=by
 have h:∀c:Fin 58,49<=c.val->PySem.intText? (S [c.val])=some ((c.val:Int) - 48):=by decide +kernel
 intro c h1 h2
 exact h ⟨c,by lia⟩ h1
section
variable{P:Program}{w:World}{K:qfa}{mg:Str->Option Value}{base:Heap}{ad:Ad}
theorem qa0(T:Txt K mg ad)(d j:Nat)(hj:4<=j){spF:Sp}(OF:OkM P w K mg base j ad.Reader "read_factor" ["self","depth"] spF)(hF:∀vs H Q E,spG K ad d 1 pFactor vs H Q E->spF vs H Q E) :
  OkM P w K mg base (j+1) ad.Reader "read_power" ["self","depth"] (spG K ad d 2 pPower):=by
 have O2:=zd5 (P:=P) (w:=w) (base:=base) T
 have O3:=zxh (P:=P) (w:=w) (base:=base) T
 have O4:=zm7 (P:=P) (w:=w) (base:=base) T
 have X1:=zdj (P:=P) (w:=w) (base:=base) T
 refine T.m_Reader_read_power.ok T.l_Reader c_Reader_read_power (λvs H Q E h=>?_) (λf cdv A outer s H vs Q E hr h=>?_)
 ·obtain⟨rd,dx,lt,ls,ras,all,n,xs,sts,f,rfl,_⟩:=h
  rfl
 ·obtain⟨rd,dx,lt,ls,ras,all,n,xs,sts,f,rfl,R,hx,hf,q⟩:=h
  have h4:Room 4 _:=hr.mono hj
  have h3:Room 3 _:=hr.mono (by lia:3<=j)
  have h2:Room 2 _:=hr.mono (by lia:2<=j)
  have h1:Room 1 _:=hr.mono (by lia:1<=j)
  obtain⟨g,rfl,hg⟩:=zfr hf
  rw[zxd]at q
  refine⟨_,zad (zal (cM OF hr zab (pv 0) (zaa (pv 1) zae)))
   (zad (za9 (zm0 (zcf (cM O2 h2 zab (pv 0) (zaa zam zae)))) (zaf zw1) zav)
   (zad (zao (i:=2) c_Reader_read_power.nd rfl (Or.inl rfl) (qao (zcf (cM O2 h2 zab (pv 0) (zaa zam zae))) (zrb zj9 zan) zan))
   (zad (zao (i:=3) c_Reader_read_power.nd rfl (Or.inl rfl) (cM O3 h4 zab (pv 0) (zaa zam zae)))
   (zad (za9 (PW.pt (zwz (zar zpk (za0 zc5 rfl T.z_len (by decide +kernel) (zaa (pv 3) zae)) zan (zaz _)) (zs7 (zar zej (pv 3) zam (zaz _))))) (zaf (zjc X1 h3 zab)) zav)
   (zaf (zal (cM O4 h1 zab (pv 0) (zaa zam (zaa zam (zaa (za8 qcc (pv 2) (zxb zqc rfl T.z_int (by decide +kernel) (zaa (pv 3) zae))) zae)))))))))),?_⟩
  refine⟨_,rfl,rd,dx,_,rfl,R.ob,rfl,_,rfl,hF _ _ _ _ ⟨rd,dx,lt,ls,ras,all,n,xs,sts,g,rfl,R,hx,hg,?_⟩⟩
  by_cases hd32:32<d
  ·rw[if_pos hd32]at q ⊢
   exact q
  rw[if_neg hd32]at q ⊢
  cases hp:pFactor g d (all.drop n) with
  |none=>rw[hp]at q;exact q
  |some a=>
   rw[hp]at q
   dsimp only at q ⊢
   intro H1 n1 sts1 R1 hd1 f1
   have G:=((gd g).factor _ _ _ _ R.in1 hp).len
   refine⟨_,rfl,rd,dx,_,rfl,R1.ob,rfl,rd,dx,lt,ls,ras,all,n1,_,sts1,"^",rfl,R1,w_hat,?_⟩
   rw[hd1]
   cases hh:eat "^" a.2 with
   |none=>
    rw[hh]at q
    dsimp only at q ⊢
    exact⟨_,rfl,q H1 n1 sts1 R1 hd1 f1⟩
   |some qq=>
    rw[hh]at q
    dsimp only at q ⊢
    intro H2 R2 hd2 f2
    have lq:=zap hh
    refine⟨_,rfl,?_⟩
    refine⟨_,rfl,rd,dx,_,rfl,R2.ob,rfl,rd,dx,lt,ls,ras,all,n1+1,_,sts1,"-",rfl,R2,zqz,?_⟩
    rw[hd2]
    cases hm:eat "-" qq with
    |some z=>
     rw[hm]at q
     dsimp only at q ⊢
     intro H3 R3 hd3 f3
     have lz0:=zap hm
     refine⟨_,rfl,1,rfl,?_⟩
     refine⟨_,rfl,rd,dx,_,rfl,R3.ob,rfl,rd,dx,lt,ls,ras,all,(n1+1+1),_,sts1,rfl,R3,λt r hdt hk H4 R4 f4=>?_,λhno=>?_⟩
     ·rw[hd3]at hdt
      rw[hdt]at q
      have ft:=R3.fine t (qfv (by rw[hd3,hdt];simp))
      have lz:z.length=r.length+1:=by rw[hdt];rfl
      refine⟨_,rfl,S t.text,rfl,by rw[zdy];have:=ft.len;exact big (by lia),rfl,_,rfl,?_⟩
      rw[zdy,show (1:Int)=((1:Nat):Int) from rfl,ztw]
      cases hl1:(t.text.length == 1) with
      |false=>
       have hl:¬t.text.length=1:=by simpa using hl1
       have:power (t::r)=none:=by simp only[power];rw[if_neg (λz=>hl z.2.1)]
       rw[this]at q
       exact q
      |true=>
       have hl:t.text.length=1:=by simpa using hl1
       refine⟨_,rfl,rfl,_,rfl,?_⟩
       rw[show ("0":Str)=S [48] by decide +kernel,zia]
       by_cases h48:t.text=[48]
       ·rw[decide_eq_true h48]
        have:power (t::r)=none:=by simp only[power];rw[if_neg (λz=>z.2.2 h48)]
        rw[this]at q
        exact q
       ·rw[decide_eq_false h48]
        obtain⟨c,hc⟩:∃c,t.text=[c]:=by
         cases ht:t.text with
         |nil=>rw[ht]at hl;cases hl
         |cons c l=>rw[ht]at hl;cases l with
          |nil=>exact⟨c,rfl⟩
          |cons _ _=>simp at hl
        have hcd:=ft.num hk c (by rw[hc];simp)
        have hcr:49<=c/\c<=57:=by
         have h9:c≠48:=λz=>h48 (by rw[hc,z])
         have hdg:Kp169.digit c=true:=by
          rcases ft.ok with ⟨z,_⟩|⟨_,u,hu,hdu⟩|⟨z,_⟩
          ·lia
          ·rw[hc]at hu;simp at hu;rw[hu];exact hdu
          ·lia
         unfold Kp169.digit at hdg
         simp only[qft,decide_eq_true_eq]at hdg
         lia
        have hpw:power (t::r)=some (c - 48,r):=by
         simp only[power];rw[if_pos ⟨hk,hl,h48⟩,hc];rfl
        rw[hpw]at q
        dsimp only[qfy]at q
        rw[hc]
        refine⟨_,rfl,rd,dx,_,rfl,R4.ob,rfl,_,rfl,_,rfl,S [c],_,rfl,zp8 c hcr.1 hcr.2,by rw[zdy];show 1<=640;decide,_,_,rfl,rfl,.inl ⟨by decide,by decide⟩,?_⟩
        refine⟨rd,dx,lt,ls,ras,all,(n1+1+1)+1,_,sts1,.pw ((-1)*((c:Int) - 48)),rfl,R4,?_,λH5 sts5 R5 f5=>?_⟩
        ·rw[qfb];lia
        refine q H5 ((n1+1+1)+1) sts5 ?_ (by rw[zbp,hd3,hdt];rfl) λc o h a1 a2=>f5 _ _ (f4 _ _ (f3 _ _ (f2 _ _ (f1 _ _ h a1 a2) a1) a1) a1) a2
        simp only[za7]
        rw[<-qf7]
        have ek:(-1)*((c:Int) - 48)=-((c - 48:Nat):Int):=by lia
        rw[ek]at R5
        exact R5
     ·have:power z=none:=by
       cases hzz:z with
       |nil=>rfl
       |cons t r=>simp only[power];rw[if_neg (λz=>hno t r (by rw[hd3,hzz]) z.1)]
      rw[this]at q
      exact q
    |none=>
     rw[hm]at q
     dsimp only at q ⊢
     have R3:=R2
     have hd3:=hd2
     refine⟨_,rfl,?_⟩
     refine⟨_,rfl,rd,dx,_,rfl,R3.ob,rfl,rd,dx,lt,ls,ras,all,(n1+1),_,sts1,rfl,R3,λt r hdt hk H4 R4 f4=>?_,λhno=>?_⟩
     ·rw[hd3]at hdt
      rw[hdt]at q
      have ft:=R3.fine t (qfv (by rw[hd3,hdt];simp))
      have lz:qq.length=r.length+1:=by rw[hdt];rfl
      refine⟨_,rfl,S t.text,rfl,by rw[zdy];have:=ft.len;exact big (by lia),rfl,_,rfl,?_⟩
      rw[zdy,show (1:Int)=((1:Nat):Int) from rfl,ztw]
      cases hl1:(t.text.length == 1) with
      |false=>
       have hl:¬t.text.length=1:=by simpa using hl1
       have:power (t::r)=none:=by simp only[power];rw[if_neg (λz=>hl z.2.1)]
       rw[this]at q
       exact q
      |true=>
       have hl:t.text.length=1:=by simpa using hl1
       refine⟨_,rfl,rfl,_,rfl,?_⟩
       rw[show ("0":Str)=S [48] by decide +kernel,zia]
       by_cases h48:t.text=[48]
       ·rw[decide_eq_true h48]
        have:power (t::r)=none:=by simp only[power];rw[if_neg (λz=>z.2.2 h48)]
        rw[this]at q
        exact q
       ·rw[decide_eq_false h48]
        obtain⟨c,hc⟩:∃c,t.text=[c]:=by
         cases ht:t.text with
         |nil=>rw[ht]at hl;cases hl
         |cons c l=>rw[ht]at hl;cases l with
          |nil=>exact⟨c,rfl⟩
          |cons _ _=>simp at hl
        have hcd:=ft.num hk c (by rw[hc];simp)
        have hcr:49<=c/\c<=57:=by
         have h9:c≠48:=λz=>h48 (by rw[hc,z])
         have hdg:Kp169.digit c=true:=by
          rcases ft.ok with ⟨z,_⟩|⟨_,u,hu,hdu⟩|⟨z,_⟩
          ·lia
          ·rw[hc]at hu;simp at hu;rw[hu];exact hdu
          ·lia
         unfold Kp169.digit at hdg
         simp only[qft,decide_eq_true_eq]at hdg
         lia
        have hpw:power (t::r)=some (c - 48,r):=by
         simp only[power];rw[if_pos ⟨hk,hl,h48⟩,hc];rfl
        rw[hpw]at q
        dsimp only[qfy]at q
        rw[hc]
        refine⟨_,rfl,rd,dx,_,rfl,R4.ob,rfl,_,rfl,_,rfl,S [c],_,rfl,zp8 c hcr.1 hcr.2,by rw[zdy];show 1<=640;decide,_,_,rfl,rfl,.inl ⟨by decide,by decide⟩,?_⟩
        refine⟨rd,dx,lt,ls,ras,all,(n1+1)+1,_,sts1,.pw (1*((c:Int) - 48)),rfl,R4,?_,λH5 sts5 R5 f5=>?_⟩
        ·rw[qfb];lia
        refine q H5 ((n1+1)+1) sts5 ?_ (by rw[zbp,hd3,hdt];rfl) λc o h a1 a2=>f5 _ _ (f4 _ _ (f2 _ _ (f1 _ _ h a1 a2) a1) a1) a2
        simp only[za7]
        rw[<-qf7]
        have ek:1*((c:Int) - 48)=((c - 48:Nat):Int):=by lia
        rw[ek]at R5
        exact R5
     ·have:power qq=none:=by
       cases hzz:qq with
       |nil=>rfl
       |cons t r=>simp only[power];rw[if_neg (λz=>hno t r (by rw[hd3,hzz]) z.1)]
      rw[this]at q
      exact q
end
theorem signsV:([V.str "*",V.str "/"]:List V)=zbz [bytesOf "*",bytesOf "/"]:=by decide +kernel
section
variable{P:Program}{w:World}{K:qfa}{mg:Str->Option Value}{base:Heap}{ad:Ad}
theorem qd2(T:Txt K mg ad)(d j:Nat)(hj:4<=j){spP:Sp}(OP:OkM P w K mg base j ad.Reader "read_power" ["self","depth"] spP)(hP:∀vs H Q E,spG K ad d 2 pPower vs H Q E->spP vs H Q E) :
  OkM P w K mg base (j+1) ad.Reader "read_term" ["self","depth"] (spG K ad d 3 pTerm):=by
 have O1:=znv (P:=P) (w:=w) (base:=base) T
 have O3:=zjw (P:=P) (w:=w) (base:=base) T
 have O4:=zm7 (P:=P) (w:=w) (base:=base) T
 refine T.m_Reader_read_term.ok T.l_Reader c_Reader_read_term (λvs H Q E h=>?_) (λf cdv A outer s H vs Q E hr h=>?_)
 ·obtain⟨rd,dx,lt,ls,ras,all,n,xs,sts,f,rfl,_⟩:=h
  rfl
 ·obtain⟨rd,dx,lt,ls,ras,all,n,xs,sts,f,rfl,R,hx,hf,q⟩:=h
  have h4:Room 4 _:=hr.mono hj
  have h1:Room 1 _:=hr.mono (by lia:1<=j)
  obtain⟨g,rfl,hg⟩:=zfr hf
  rw[qaq]at q
  refine⟨_,zad (zal (cM OP hr zab (pv 0) (zaa (pv 1) zae)))
   (zaf (zd4 zbk (zar zku (cM0 O3 h1 zab (pv 0)) (zkr (zaa zam (zaa zam zae))) rfl)
    (zad (zao (i:=2) c_Reader_read_term.nd rfl (Or.inl rfl) (cM O1 h4 zab (pv 0) (zaa (cM0 O3 h1 zab (pv 0)) zae)))
    (zad (zal (cM OP hr zab (pv 0) (zaa (pv 1) zae)))
    (zaf (zal (cM O4 h1 zab (pv 0) (zaa (pv 2) (zaa zam (zaa zan zae)))))))))),?_⟩
  refine⟨_,rfl,rd,dx,_,rfl,R.ob,rfl,_,rfl,hP _ _ _ _ ⟨rd,dx,lt,ls,ras,all,n,xs,sts,g,rfl,R,hx,hg,?_⟩⟩
  by_cases hd32:32<d
  ·rw[if_pos hd32]at q ⊢
   exact q
  rw[if_neg hd32]at q ⊢
  cases hp:pPower g d (all.drop n) with
  |none=>rw[hp]at q;exact q
  |some a0=>
   rw[hp]at q
   dsimp only at q ⊢
   intro H1 n1 sts1 R1 hd1 f1
   have G:=((gd g).power _ _ _ _ R.in1 hp).len
   have gs:=(shr g).power _ _ _ _ hp
   refine⟨λm σ H'=>∃(n':Nat)(sts':List Addr)(a:KE)(f':Nat)(v2:Option V),σ=[some (.ref rd),some (.int d),v2]/\RAt ad H' rd dx lt ls ras all n' (xs++za7 a) sts'/\F2 H H' rd ls/\(xs++za7 a).length+(all.drop n').length<=20000/\16*(all.drop n').length+8<=f' ∧
     (match pTermRest f' d a (all.drop n') with
      |none=>zaw K ad.R E (-71) 0
      |some p=>∀H'' n'' sts'',RAt ad H'' rd dx lt ls ras all n'' (xs++za7 p.1) sts''->all.drop n''=p.2->F2 H H'' rd ls->Q .non H'')/\m=(all.drop n').length,⟨_,n1,sts1,a0.1,g,none,rfl,R1,f1,by rw[hd1,qfb];lia,by rw[hd1];lia,by rw[hd1];exact q,rfl⟩,?_⟩
   rintro m σ H2 ⟨n2,sts2,a2',f2,v2,rfl,R2,F2',hx2,hf2,q2,rfl⟩
   refine⟨_,rfl,rd,dx,_,rfl,R2.ob,rfl,rd,dx,lt,ls,ras,all,n2,_,sts2,rfl,R2,(by show 2<=sizeLine;decide),λp np=>?_⟩
   refine⟨p,_,rfl,.inr (.inl (.inl zac)),rfl,by decide +kernel,_,rfl,?_⟩
   have sP:=zaj (o:=HO.tup [V.str "*",V.str "/"]) np
   have R3:=R2.toSame sP
   show if inV (.str (S (zb2 (all.drop n2)))) [V.str "*",V.str "/"]=true then _ else _
   rw[signsV,zh0]
   cases hE1:eat "*" (all.drop n2) with
   |some r=>
      have lr:=zap hE1
      have hah:zb2 (all.drop n2)=bytesOf "*":=by
       have:=zft (w:="*") R2.oks w_star
       rw[hE1]at this
       by_cases z:zb2 (all.drop n2)=bytesOf "*"
       ·exact z
       ·rw[if_neg z]at this;cases this
      obtain⟨f2',rfl,hf2'⟩:=zfr hf2
      rw[zfm]at q2
      rw[hE1]at q2
      dsimp only at q2
      rw[hah]
      rw[show ([bytesOf "*",bytesOf "/"]:List Bytes).contains (bytesOf "*")=true by decide]
      refine⟨λσ' H'=>∃(n':Nat)(sts':List Addr)(a:KE)(f':Nat)(v2:Option V),σ'=[some (.ref rd),some (.int d),v2]/\RAt ad H' rd dx lt ls ras all n' (xs++za7 a) sts'/\F2 H H' rd ls/\(xs++za7 a).length+(all.drop n').length<=20000/\16*(all.drop n').length+8<=f' ∧
       (match pTermRest f' d a (all.drop n') with
        |none=>zaw K ad.R E (-71) 0
        |some p=>∀H'' n'' sts'',RAt ad H'' rd dx lt ls ras all n'' (xs++za7 p.1) sts''->all.drop n''=p.2->F2 H H'' rd ls->Q .non H'')/\(all.drop n').length<(all.drop n2).length,
       λσ' H' ⟨n',sts',a,f',v2,a1,a2,a3,a4,a5,a6,a7⟩=>⟨_,a7,n',sts',a,f',v2,a1,a2,a3,a4,a5,a6,rfl⟩,?_⟩
      refine⟨_,rfl,rd,dx,_,rfl,R3.ob,rfl,_,rfl,rd,dx,_,rfl,R3.ob,rfl,rd,dx,lt,ls,ras,all,n2,_,sts2,rfl,R3,rd,dx,lt,ls,ras,all,n2,_,sts2,_,zb2 (all.drop n2),rfl,R3,rfl,by rw[hah];exact w_star.p.2.2,λ_ H4 t r' hdt R4 f4=>?_,λz=>absurd rfl z⟩
      have hr':r'=r:=by
       have:=zyy hE1
       rw[hdt]at this
       exact this.symm
      subst hr'
      have htt:S t.text=("*":Str):=by
       have hi:isTok "*" (t::r')=true:=by
        have:=hE1
        rw[hdt,zbb]at this
        cases e:isTok "*" (t::r') with
        |true=>rfl
        |false=>rw[e]at this;simp at this
       rw[zf7 hi];exact w_star.s.symm
      rw[htt]
      have hd4:all.drop (n2+1)=r':=by rw[zbp,hdt];rfl
      refine⟨_,rfl,rd,dx,_,rfl,R4.ob,rfl,_,rfl,hP _ _ _ _ ⟨rd,dx,lt,ls,ras,all,n2+1,_,sts2,f2',rfl,R4,by rw[hd4];lia,by rw[hd4];lia,?_⟩⟩
      rw[if_neg hd32,hd4]
      cases hp2:pPower f2' d r' with
      |none=>rw[hp2]at q2;exact q2
      |some b=>
       rw[hp2]at q2
       dsimp only at q2 ⊢
       intro H5 n5 sts5 R5 hd5 f5
       have G2:=((gd f2').power _ _ _ _ (by have:=R4.in1;rw[hd4]at this;exact this) hp2).len
       have gs2:=(shr f2').power _ _ _ _ hp2
       refine⟨_,rfl,rd,dx,_,rfl,R5.ob,rfl,_,rfl,rd,dx,lt,ls,ras,all,n5,_,sts5,.times,rfl,R5,by rw[qfb];lia,λH6 sts6 R6 f6=>?_⟩
       have ecomp:xs++za7 (.bin 42 a2' b.1)=xs++za7 a2'++za7 b.1++[.times]:=by simp[za7]
       refine⟨n5,sts6,.bin 42 a2' b.1,f2',_,rfl,by rw[ecomp];exact R6,λc o h a1 a2=>f6 _ _ (f5 _ _ (f4 _ _ (sP _ _ (F2' _ _ h a1 a2)) a1) a1 a2) a2,?_,by rw[hd5];lia,by rw[hd5];exact q2,by rw[hd5];lia⟩
       rw[hd5,ecomp]
       simp only[qfb,qfd,qf5]at hx2 ⊢
       lia
   |none=>
    have hn1:=hE1
    cases hE1:eat "/" (all.drop n2) with
    |some r=>
      have lr:=zap hE1
      have hah:zb2 (all.drop n2)=bytesOf "/":=by
       have:=zft (w:="/") R2.oks w_over
       rw[hE1]at this
       by_cases z:zb2 (all.drop n2)=bytesOf "/"
       ·exact z
       ·rw[if_neg z]at this;cases this
      obtain⟨f2',rfl,hf2'⟩:=zfr hf2
      rw[zfm]at q2
      rw[hn1]at q2
      dsimp only at q2
      rw[hE1]at q2
      dsimp only at q2
      rw[hah]
      rw[show ([bytesOf "*",bytesOf "/"]:List Bytes).contains (bytesOf "/")=true by decide]
      refine⟨λσ' H'=>∃(n':Nat)(sts':List Addr)(a:KE)(f':Nat)(v2:Option V),σ'=[some (.ref rd),some (.int d),v2]/\RAt ad H' rd dx lt ls ras all n' (xs++za7 a) sts'/\F2 H H' rd ls/\(xs++za7 a).length+(all.drop n').length<=20000/\16*(all.drop n').length+8<=f' ∧
       (match pTermRest f' d a (all.drop n') with
        |none=>zaw K ad.R E (-71) 0
        |some p=>∀H'' n'' sts'',RAt ad H'' rd dx lt ls ras all n'' (xs++za7 p.1) sts''->all.drop n''=p.2->F2 H H'' rd ls->Q .non H'')/\(all.drop n').length<(all.drop n2).length,
       λσ' H' ⟨n',sts',a,f',v2,a1,a2,a3,a4,a5,a6,a7⟩=>⟨_,a7,n',sts',a,f',v2,a1,a2,a3,a4,a5,a6,rfl⟩,?_⟩
      refine⟨_,rfl,rd,dx,_,rfl,R3.ob,rfl,_,rfl,rd,dx,_,rfl,R3.ob,rfl,rd,dx,lt,ls,ras,all,n2,_,sts2,rfl,R3,rd,dx,lt,ls,ras,all,n2,_,sts2,_,zb2 (all.drop n2),rfl,R3,rfl,by rw[hah];exact w_over.p.2.2,λ_ H4 t r' hdt R4 f4=>?_,λz=>absurd rfl z⟩
      have hr':r'=r:=by
       have:=zyy hE1
       rw[hdt]at this
       exact this.symm
      subst hr'
      have htt:S t.text=("/":Str):=by
       have hi:isTok "/" (t::r')=true:=by
        have:=hE1
        rw[hdt,zbb]at this
        cases e:isTok "/" (t::r') with
        |true=>rfl
        |false=>rw[e]at this;simp at this
       rw[zf7 hi];exact w_over.s.symm
      rw[htt]
      have hd4:all.drop (n2+1)=r':=by rw[zbp,hdt];rfl
      refine⟨_,rfl,rd,dx,_,rfl,R4.ob,rfl,_,rfl,hP _ _ _ _ ⟨rd,dx,lt,ls,ras,all,n2+1,_,sts2,f2',rfl,R4,by rw[hd4];lia,by rw[hd4];lia,?_⟩⟩
      rw[if_neg hd32,hd4]
      cases hp2:pPower f2' d r' with
      |none=>rw[hp2]at q2;exact q2
      |some b=>
       rw[hp2]at q2
       dsimp only at q2 ⊢
       intro H5 n5 sts5 R5 hd5 f5
       have G2:=((gd f2').power _ _ _ _ (by have:=R4.in1;rw[hd4]at this;exact this) hp2).len
       have gs2:=(shr f2').power _ _ _ _ hp2
       refine⟨_,rfl,rd,dx,_,rfl,R5.ob,rfl,_,rfl,rd,dx,lt,ls,ras,all,n5,_,sts5,.over,rfl,R5,by rw[qfb];lia,λH6 sts6 R6 f6=>?_⟩
       have ecomp:xs++za7 (.bin 47 a2' b.1)=xs++za7 a2'++za7 b.1++[.over]:=by simp[za7]
       refine⟨n5,sts6,.bin 47 a2' b.1,f2',_,rfl,by rw[ecomp];exact R6,λc o h a1 a2=>f6 _ _ (f5 _ _ (f4 _ _ (sP _ _ (F2' _ _ h a1 a2)) a1) a1 a2) a2,?_,by rw[hd5];lia,by rw[hd5];exact q2,by rw[hd5];lia⟩
       rw[hd5,ecomp]
       simp only[qfb,qfd,qf5]at hx2 ⊢
       lia
    |none=>
     have hnone:([bytesOf "*",bytesOf "/"]:List Bytes).contains (zb2 (all.drop n2))=false:=by
      have e1:=zft (w:="*") R2.oks w_star
      have e2:=zft (w:="/") R2.oks w_over
      rw[hn1]at e1
      rw[hE1]at e2
      have z1:¬zb2 (all.drop n2)=bytesOf "*":=λz=>by rw[if_pos z]at e1;cases e1
      have z2:¬zb2 (all.drop n2)=bytesOf "/":=λz=>by rw[if_pos z]at e2;cases e2
      rw[qgt,qgt,List.contains_nil,beq_false_of_ne z1,beq_false_of_ne z2]
      rfl
     rw[hnone]
     obtain⟨f2',rfl,hf2'⟩:=zfr hf2
     rw[zfm,hn1,hE1]at q2
     exact q2 _ n2 sts2 R3 rfl λc o h a1 a2=>sP _ _ (F2' _ _ h a1 a2)
theorem ok_sum(T:Txt K mg ad)(d j:Nat)(hj:4<=j){spT:Sp}(OT:OkM P w K mg base j ad.Reader "read_term" ["self","depth"] spT)(hT:∀vs H Q E,spG K ad d 3 pTerm vs H Q E->spT vs H Q E) :
  OkM P w K mg base (j+1) ad.Reader "read_sum" ["self","depth"] (spG K ad d 4 pSum):=by
 have O2:=zd5 (P:=P) (w:=w) (base:=base) T
 have O4:=zm7 (P:=P) (w:=w) (base:=base) T
 refine T.m_Reader_read_sum.ok T.l_Reader zix (λvs H Q E h=>?_) (λf cdv A outer s H vs Q E hr h=>?_)
 ·obtain⟨rd,dx,lt,ls,ras,all,n,xs,sts,f,rfl,_⟩:=h
  rfl
 ·obtain⟨rd,dx,lt,ls,ras,all,n,xs,sts,f,rfl,R,hx,hf,q⟩:=h
  have h2:Room 2 _:=hr.mono (by lia:2<=j)
  have h1:Room 1 _:=hr.mono (by lia:1<=j)
  obtain⟨g,rfl,hg⟩:=zfr hf
  rw[qdy]at q
  refine⟨_,zad (zal (cM OT hr zab (pv 0) (zaa (pv 1) zae)))
   (zaf (zd4 zbk (PW.pt (zwz (zcf (cM O2 h2 zab (pv 0) (zaa zam zae))) (zs7 (zcf (cM O2 h2 zab (pv 0) (zaa zam zae))))))
    (zad (zal (cM OT hr zab (pv 0) (zaa (pv 1) zae)))
    (zaf (zal (cM O4 h1 zab (pv 0) (zaa zam (zaa zam (zaa zan zae))))))))),?_⟩
  refine⟨_,rfl,rd,dx,_,rfl,R.ob,rfl,_,rfl,hT _ _ _ _ ⟨rd,dx,lt,ls,ras,all,n,xs,sts,g,rfl,R,hx,hg,?_⟩⟩
  by_cases hd32:32<d
  ·rw[if_pos hd32]at q ⊢
   exact q
  rw[if_neg hd32]at q ⊢
  cases hp:pTerm g d (all.drop n) with
  |none=>rw[hp]at q;exact q
  |some a0=>
   rw[hp]at q
   dsimp only at q ⊢
   intro H1 n1 sts1 R1 hd1 f1
   have G:=((gd g).term _ _ _ _ R.in1 hp).len
   have gs:=(shr g).term _ _ _ _ hp
   refine⟨λm σ H'=>∃(n':Nat)(sts':List Addr)(a:KE)(f':Nat),σ=[some (.ref rd),some (.int d)]/\RAt ad H' rd dx lt ls ras all n' (xs++za7 a) sts'/\F2 H H' rd ls/\(xs++za7 a).length+(all.drop n').length<=20000/\16*(all.drop n').length+8<=f' ∧
     (match pSumRest f' d a (all.drop n') with
      |none=>zaw K ad.R E (-71) 0
      |some p=>∀H'' n'' sts'',RAt ad H'' rd dx lt ls ras all n'' (xs++za7 p.1) sts''->all.drop n''=p.2->F2 H H'' rd ls->Q .non H'')/\m=(all.drop n').length,⟨_,n1,sts1,a0.1,g,rfl,R1,f1,by rw[hd1,qfb];lia,by rw[hd1];lia,by rw[hd1];exact q,rfl⟩,?_⟩
   rintro m σ H2 ⟨n2,sts2,a2',f2,rfl,R2,F2',hx2,hf2,q2,rfl⟩
   refine⟨_,rfl,rd,dx,_,rfl,R2.ob,rfl,rd,dx,lt,ls,ras,all,n2,_,sts2,"+",rfl,R2,w_plus,?_⟩
   cases hE1:eat "+" (all.drop n2) with
   |some r=>
    dsimp only
    intro H3 R3 hd3 f3
    have lr:=zap hE1
    refine⟨_,rfl,?_⟩
    obtain⟨f2',rfl,hf2'⟩:=zfr hf2
    rw[zgv]at q2
    rw[hE1]at q2
    dsimp only at q2
    refine⟨λσ' H'=>∃(n':Nat)(sts':List Addr)(a:KE)(f':Nat),σ'=[some (.ref rd),some (.int d)]/\RAt ad H' rd dx lt ls ras all n' (xs++za7 a) sts'/\F2 H H' rd ls/\(xs++za7 a).length+(all.drop n').length<=20000/\16*(all.drop n').length+8<=f' ∧
     (match pSumRest f' d a (all.drop n') with
      |none=>zaw K ad.R E (-71) 0
      |some p=>∀H'' n'' sts'',RAt ad H'' rd dx lt ls ras all n'' (xs++za7 p.1) sts''->all.drop n''=p.2->F2 H H'' rd ls->Q .non H'')/\(all.drop n').length<(all.drop n2).length,
     λσ' H' ⟨n',sts',a,f',a1,a2,a3,a4,a5,a6,a7⟩=>⟨_,a7,n',sts',a,f',a1,a2,a3,a4,a5,a6,rfl⟩,?_⟩
    refine⟨_,rfl,rd,dx,_,rfl,R3.ob,rfl,_,rfl,hT _ _ _ _ ⟨rd,dx,lt,ls,ras,all,n2+1,_,sts2,f2',rfl,R3,by rw[hd3];lia,by rw[hd3];lia,?_⟩⟩
    rw[if_neg hd32,hd3]
    cases hp2:pTerm f2' d r with
    |none=>rw[hp2]at q2;exact q2
    |some b=>
     rw[hp2]at q2
     dsimp only at q2 ⊢
     intro H5 n5 sts5 R5 hd5 f5
     have G2:=((gd f2').term _ _ _ _ (by have:=R3.in1;rw[hd3]at this;exact this) hp2).len
     have gs2:=(shr f2').term _ _ _ _ hp2
     refine⟨_,rfl,rd,dx,_,rfl,R5.ob,rfl,rd,dx,lt,ls,ras,all,n5,_,sts5,.alike,rfl,R5,by rw[qfb];lia,λH6 sts6 R6 f6=>?_⟩
     have ecomp:xs++za7 (.bin 43 a2' b.1)=xs++za7 a2'++za7 b.1++[.alike]:=by simp[za7]
     refine⟨n5,sts6,.bin 43 a2' b.1,f2',rfl,by rw[ecomp];exact R6,λc o h a1 a2=>f6 _ _ (f5 _ _ (f3 _ _ (F2' _ _ h a1 a2) a1) a1 a2) a2,?_,by rw[hd5];lia,by rw[hd5];exact q2,by rw[hd5];lia⟩
     rw[hd5,ecomp]
     simp only[qfb,qfd,qf5]at hx2 ⊢
     lia
   |none=>
    have hn1:=hE1
    refine⟨_,rfl,?_⟩
    refine⟨_,rfl,rd,dx,_,rfl,R2.ob,rfl,rd,dx,lt,ls,ras,all,n2,_,sts2,"-",rfl,R2,zqz,?_⟩
    cases hE1:eat "-" (all.drop n2) with
    |some r=>
     dsimp only
     intro H3 R3 hd3 f3
     have lr:=zap hE1
     refine⟨_,rfl,?_⟩
     obtain⟨f2',rfl,hf2'⟩:=zfr hf2
     rw[zgv]at q2
     rw[hn1]at q2
     dsimp only at q2
     rw[hE1]at q2
     dsimp only at q2
     refine⟨λσ' H'=>∃(n':Nat)(sts':List Addr)(a:KE)(f':Nat),σ'=[some (.ref rd),some (.int d)]/\RAt ad H' rd dx lt ls ras all n' (xs++za7 a) sts'/\F2 H H' rd ls/\(xs++za7 a).length+(all.drop n').length<=20000/\16*(all.drop n').length+8<=f' ∧
      (match pSumRest f' d a (all.drop n') with
       |none=>zaw K ad.R E (-71) 0
       |some p=>∀H'' n'' sts'',RAt ad H'' rd dx lt ls ras all n'' (xs++za7 p.1) sts''->all.drop n''=p.2->F2 H H'' rd ls->Q .non H'')/\(all.drop n').length<(all.drop n2).length,
      λσ' H' ⟨n',sts',a,f',a1,a2,a3,a4,a5,a6,a7⟩=>⟨_,a7,n',sts',a,f',a1,a2,a3,a4,a5,a6,rfl⟩,?_⟩
     refine⟨_,rfl,rd,dx,_,rfl,R3.ob,rfl,_,rfl,hT _ _ _ _ ⟨rd,dx,lt,ls,ras,all,n2+1,_,sts2,f2',rfl,R3,by rw[hd3];lia,by rw[hd3];lia,?_⟩⟩
     rw[if_neg hd32,hd3]
     cases hp2:pTerm f2' d r with
     |none=>rw[hp2]at q2;exact q2
     |some b=>
      rw[hp2]at q2
      dsimp only at q2 ⊢
      intro H5 n5 sts5 R5 hd5 f5
      have G2:=((gd f2').term _ _ _ _ (by have:=R3.in1;rw[hd3]at this;exact this) hp2).len
      have gs2:=(shr f2').term _ _ _ _ hp2
      refine⟨_,rfl,rd,dx,_,rfl,R5.ob,rfl,rd,dx,lt,ls,ras,all,n5,_,sts5,.alike,rfl,R5,by rw[qfb];lia,λH6 sts6 R6 f6=>?_⟩
      have ecomp:xs++za7 (.bin 45 a2' b.1)=xs++za7 a2'++za7 b.1++[.alike]:=by simp[za7]
      refine⟨n5,sts6,.bin 45 a2' b.1,f2',rfl,by rw[ecomp];exact R6,λc o h a1 a2=>f6 _ _ (f5 _ _ (f3 _ _ (F2' _ _ h a1 a2) a1) a1 a2) a2,?_,by rw[hd5];lia,by rw[hd5];exact q2,by rw[hd5];lia⟩
      rw[hd5,ecomp]
      simp only[qfb,qfd,qf5]at hx2 ⊢
      lia
    |none=>
     refine⟨_,rfl,?_⟩
     obtain⟨f2',rfl,hf2'⟩:=zfr hf2
     rw[zgv,hn1,hE1]at q2
     exact q2 _ n2 sts2 R2 rfl F2'
theorem qee(T:Txt K mg ad)(d j:Nat)(hj:4<=j){spS spE:Sp}(OS:OkM P w K mg base j ad.Reader "read_sum" ["self","depth"] spS)(OE:OkM P w K mg base j ad.Reader "read_expression" ["self","depth"] spE)(hS:∀vs H Q E,spG K ad d 4 pSum vs H Q E->spS vs H Q E)(hE:d<=32->∀vs H Q E,spG K ad (d+1) 5 pExpr vs H Q E->spE vs H Q E) :
  OkM P w K mg base (j+1) ad.Reader "read_expression" ["self","depth"] (spG K ad d 5 pExpr):=by
 have O1:=zm8 (P:=P) (w:=w) (base:=base) T
 have O2:=zd5 (P:=P) (w:=w) (base:=base) T
 have O4:=zm7 (P:=P) (w:=w) (base:=base) T
 refine T.m_Reader_read_expression.ok T.l_Reader zch (λvs H Q E h=>?_) (λf cdv A outer s H vs Q E hr h=>?_)
 ·obtain⟨rd,dx,lt,ls,ras,all,n,xs,sts,f,rfl,_⟩:=h
  rfl
 ·obtain⟨rd,dx,lt,ls,ras,all,n,xs,sts,f,rfl,R,hx,hf,q⟩:=h
  have h4:Room 4 _:=hr.mono hj
  have h2:Room 2 _:=hr.mono (by lia:2<=j)
  have h1:Room 1 _:=hr.mono (by lia:1<=j)
  obtain⟨g,rfl,hg⟩:=zfr hf
  rw[ztf]at q
  refine⟨_,zad (za9 (zm0 (zcf (cM O2 h2 zab (pv 0) (zaa zam zae)))) (zad (zal (cM OS hr zab (pv 0) (zaa (pv 1) zae))) (zaf zw1)) zav)
   (zad (zal (cM OS hr zab (pv 0) (zaa (pv 1) zae)))
   (zad (zal (cM O1 h4 zab (pv 0) (zaa zam zae)))
   (zad (zal (cM OS hr zab (pv 0) (zaa (pv 1) zae)))
   (zad (zal (cM O4 h1 zab (pv 0) (zaa zam (zaa zam (zaa zan zae)))))
   (zad (zal (cM O1 h4 zab (pv 0) (zaa zam zae)))
   (zad (zal (cM OE hr zab (pv 0) (zaa (za8 zb8 (pv 1) zan) zae)))
   (zad (zal (cM O1 h4 zab (pv 0) (zaa zam zae)))
   (zad (zal (cM OE hr zab (pv 0) (zaa (za8 zb8 (pv 1) zan) zae)))
   (zaf (zal (cM O4 h1 zab (pv 0) (zaa zam (zaa zam (zaa zan zae)))))))))))))),?_⟩
  refine⟨_,rfl,rd,dx,_,rfl,R.ob,rfl,rd,dx,lt,ls,ras,all,n,xs,sts,"if",rfl,R,w_if,?_⟩
  cases hi:eat "if" (all.drop n) with
  |none=>
   dsimp only
   refine⟨_,rfl,?_⟩
   refine⟨_,rfl,rd,dx,_,rfl,R.ob,rfl,_,rfl,hS _ _ _ _ ⟨rd,dx,lt,ls,ras,all,n,xs,sts,g,rfl,R,hx,hg,?_⟩⟩
   by_cases hd32:32<d
   ·rw[if_pos hd32]at q ⊢
    exact q
   rw[if_neg hd32]at q ⊢
   rw[if_neg hd32,hi]at q
   dsimp only at q
   exact q
  |some r=>
   dsimp only
   intro H1 R1 hd1 f1
   have lr:=zap hi
   refine⟨_,rfl,?_⟩
   refine⟨_,rfl,rd,dx,_,rfl,R1.ob,rfl,_,rfl,hS _ _ _ _ ⟨rd,dx,lt,ls,ras,all,n+1,xs,sts,g,rfl,R1,by rw[hd1];lia,by rw[hd1];lia,?_⟩⟩
   by_cases hd32:32<d
   ·rw[if_pos hd32]at q ⊢
    exact q
   rw[if_neg hd32]at q ⊢
   rw[if_neg hd32,hi]at q
   dsimp only at q
   rw[hd1]
   cases ha:pSum g d r with
   |none=>rw[ha]at q;exact q
   |some a=>
    rw[ha]at q
    dsimp only at q ⊢
    intro H2 n2 sts2 R2 hd2 f2
    have G1:=((gd g).sum _ _ _ _ (by have:=R1.in1;rw[hd1]at this;exact this) ha).len
    refine⟨_,rfl,rd,dx,_,rfl,R2.ob,rfl,rd,dx,lt,ls,ras,all,n2,_,sts2,"<",rfl,R2,w_lt,?_⟩
    rw[hd2]
    cases hq:eat "<" a.2 with
    |none=>rw[hq]at q;exact q
    |some qq=>
     rw[hq]at q
     dsimp only at q ⊢
     intro H3 v3 R3 hd3 f3
     have lq:=zap hq
     refine⟨_,rfl,rd,dx,_,rfl,R3.ob,rfl,_,rfl,hS _ _ _ _ ⟨rd,dx,lt,ls,ras,all,n2+1,_,sts2,g,rfl,R3,by rw[hd3,qfb];lia,by rw[hd3];lia,?_⟩⟩
     rw[if_neg hd32,hd3]
     cases hb:pSum g d qq with
     |none=>rw[hb]at q;exact q
     |some b=>
      rw[hb]at q
      dsimp only at q ⊢
      intro H4 n4 sts4 R4 hd4 f4
      have G2:=((gd g).sum _ _ _ _ (by have:=R3.in1;rw[hd3]at this;exact this) hb).len
      refine⟨_,rfl,rd,dx,_,rfl,R4.ob,rfl,rd,dx,lt,ls,ras,all,n4,_,sts4,.compare,rfl,R4,by rw[qfb,qfb];lia,λH5 sts5 R5 f5=>?_⟩
      refine⟨_,rfl,rd,dx,_,rfl,R5.ob,rfl,rd,dx,lt,ls,ras,all,n4,_,sts5,"then",rfl,R5,w_then,?_⟩
      rw[hd4]
      cases ht:eat "then" b.2 with
      |none=>rw[ht]at q;exact q
      |some tt=>
       rw[ht]at q
       dsimp only at q ⊢
       intro H6 v6 R6 hd6 f6
       have lt':=zap ht
       refine⟨_,rfl,rd,dx,_,rfl,R6.ob,rfl,_,rfl,zl5 (ze4 rfl rfl (n:=((d+1:Nat):Int)) (by lia) ?_)⟩
       refine hE (by lia) _ _ _ _ ⟨rd,dx,lt,ls,ras,all,n4+1,_,sts5,g,rfl,R6,by rw[hd6];simp only[qfb,qfd,qf5];lia,by rw[hd6];lia,zfs ?_⟩
       rw[hd6]
       cases hxx:pExpr g (d+1) tt with
       |none=>rw[hxx]at q;exact q
       |some x=>
        rw[hxx]at q
        dsimp only at q ⊢
        intro H7 n7 sts7 R7 hd7 f7
        have G3:=((gd g).expr _ _ _ _ (by have:=R6.in1;rw[hd6]at this;exact this) hxx).len
        refine⟨_,rfl,rd,dx,_,rfl,R7.ob,rfl,rd,dx,lt,ls,ras,all,n7,_,sts7,"else",rfl,R7,w_else,?_⟩
        rw[hd7]
        cases hu:eat "else" x.2 with
        |none=>rw[hu]at q;exact q
        |some u=>
         rw[hu]at q
         dsimp only at q ⊢
         intro H8 v8 R8 hd8 f8
         have lu:=zap hu
         refine⟨_,rfl,rd,dx,_,rfl,R8.ob,rfl,_,rfl,zl5 (ze4 rfl rfl (n:=((d+1:Nat):Int)) (by lia) ?_)⟩
         refine hE (by lia) _ _ _ _ ⟨rd,dx,lt,ls,ras,all,n7+1,_,sts7,g,rfl,R8,by rw[hd8];simp only[qfb,qfd,qf5];lia,by rw[hd8];lia,zfs ?_⟩
         rw[hd8]
         cases hy:pExpr g (d+1) u with
         |none=>rw[hy]at q;exact q
         |some y=>
          rw[hy]at q
          dsimp only at q ⊢
          intro H9 n9 sts9 R9 hd9 f9
          have G4:=((gd g).expr _ _ _ _ (by have:=R8.in1;rw[hd8]at this;exact this) hy).len
          refine⟨_,rfl,rd,dx,_,rfl,R9.ob,rfl,rd,dx,lt,ls,ras,all,n9,_,sts9,.alike,rfl,R9,by simp only[qfb,qfd,qf5];lia,λH10 sts10 R10 f10=>?_⟩
          refine q H10 n9 sts10 ?_ hd9 λc o h a1 a2=>f10 _ _ (f9 _ _ (f8 _ _ (f7 _ _ (f6 _ _ (f5 _ _ (f4 _ _ (f3 _ _ (f2 _ _ (f1 _ _ h a1) a1 a2) a1) a1 a2) a2) a1) a1 a2) a1) a1 a2) a2
          have ecomp:xs++za7 (.ite a.1 b.1 x.1 y.1)=xs++za7 a.1++za7 b.1++[.compare]++za7 x.1++za7 y.1++[.alike]:=by simp[za7]
          rw[ecomp]
          exact R10
end
open Kp169 (Bytes isTok eat bytesOf number pExpr pSum pSumRest pTerm pTermRest pPower pFactor pArgs pMore power pNames pItem pItems sheetOf)
section
variable{P:Program}{w:World}{K:qfa}{mg:Str->Option Value}{base:Heap}{ad:Ad}
theorem zx1(T:Txt K mg ad)(k:Nat):OkM P w K mg base (k+1) ad.Reader "read_expression" ["self","depth"] (λ_ _ _ _=>False):=
 T.m_Reader_read_expression.ok T.l_Reader zch (λvs H Q E h=>h.elim) (λf cdv A outer s H vs Q E hr h=>h.elim)
theorem zx0(T:Txt K mg ad)(k:Nat):OkM P w K mg base (k+1) ad.Reader "read_factor" ["self","depth"] (λ_ _ _ _=>False):=
 T.m_Reader_read_factor.ok T.l_Reader zdg (λvs H Q E h=>h.elim) (λf cdv A outer s H vs Q E hr h=>h.elim)
theorem qek(T:Txt K mg ad)(k:Nat):OkM P w K mg base (k+1) ad.Reader "read_name" ["self","depth"] (λ_ _ _ _=>False):=
 T.m_Reader_read_name.ok T.l_Reader c_Reader_read_name (λvs H Q E h=>h.elim) (λf cdv A outer s H vs Q E hr h=>h.elim)
theorem zsu(T:Txt K mg ad)(d j:Nat)(hj:6<=j)(OF:OkM P w K mg base j ad.Reader "read_factor" ["self","depth"] (spG K ad d 1 pFactor)){spE:Sp}(OE:OkM P w K mg base (j+3) ad.Reader "read_expression" ["self","depth"] spE)(hE:d<=32->∀vs H Q E,spG K ad (d+1) 5 pExpr vs H Q E->spE vs H Q E) :
  OkM P w K mg base (j+4) ad.Reader "read_expression" ["self","depth"] (spG K ad d 5 pExpr):=by
 have O1:=qa0 T d j (by lia) OF (λ_ _ _ _ h=>h)
 have O2:=qd2 T d (j+1) (by lia) O1 (λ_ _ _ _ h=>h)
 have O3:=ok_sum T d (j+2) (by lia) O2 (λ_ _ _ _ h=>h)
 exact qee T d (j+3) (by lia) O3 OE (λ_ _ _ _ h=>h) hE
theorem qcf(T:Txt K mg ad):∀k d:Nat,d+k=33->OkM P w K mg base (6+7*k) ad.Reader "read_factor" ["self","depth"] (spG K ad d 1 pFactor)/\OkM P w K mg base (10+7*k) ad.Reader "read_expression" ["self","depth"] (spG K ad d 5 pExpr)
 |0,d,h=>by
  have hd:d=33:=by lia
  subst hd
  have F:=zpn (P:=P) (w:=w) (base:=base) T 33 5 (by lia) (zx0 T 4) (zx1 T 4) (qek T 4) (λh=>absurd h (by lia)) (λh=>absurd h (by lia)) (λh=>absurd h (by lia))
  exact⟨F,zsu T 33 6 (by lia) F (zx1 T 8) (λh=>absurd h (by lia))⟩
 |k+1,d,h=>by
  obtain⟨F1,E1⟩:=qcf T k (d+1) (by lia)
  have A1:=qef T (d+1) (10+7*k) (by lia) E1 (λ_ _ _ _ h=>h)
  have N1:=qea T d (10+7*k+1) (by lia) A1 (λ_ _ _ _ h=>h)
  have F:=zpn T d (10+7*k+1+1) (by lia) (F1.mono (by lia)) (E1.mono (by lia)) N1 (λ_ _ _ _ _ h=>h) (λ_ _ _ _ _ h=>h) (λh32 _ _ _ _ h=>⟨h32,h⟩)
  have F':OkM P w K mg base (6+7*(k+1)) ad.Reader "read_factor" ["self","depth"] (spG K ad d 1 pFactor):=F.mono (by lia)
  refine⟨F',?_⟩
  exact (zsu T d (6+7*(k+1)) (by lia) F' (E1.mono (by lia)) (λ_ _ _ _ _ h=>h)).mono (by lia)
theorem qa6(T:Txt K mg ad):OkM P w K mg base 234 ad.Reader "read_expression" ["self","depth"] (spG K ad 1 5 pExpr):=(qcf T 32 1 rfl).2
end
def zb1(f:Nat)(ts:List zcv):Option (KE×List zcv):=match eat "=" ts with
 |none=>none
 |some q=>match pExpr f 1 q with
  |none=>none
  |some e=>match eat ";" e.2 with
   |none=>none
   |some z=>some (e.1,z)
def zfn(f:Nat)(ts:List zcv):Option (List Bytes×List zcv):=match eat "(" ts with
 |none=>none
 |some o=>match eat ")" o with
  |some z=>some ([],z)
  |none=>pNames f o
def zow(f:Nat)(ts:List zcv):Option (List Bytes×List zcv):=match eat "," ts with
 |some c=>pNames f c
 |none=>(eat ")" ts).map λz=>([],z)
theorem zhs(f:Nat)(ts:List zcv):pNames (f+1) ts=match Kp169.nameAt ts with
  |none=>none
  |some x=>(zow f (ts.drop 1)).map λl=>(x::l.1,l.2):=by
 simp only[pNames,bind,pure]
 cases Kp169.nameAt ts with
 |none=>rfl
 |some x=>
  simp only[qf3]
  unfold zow
  cases hc:eat "," (ts.drop 1) with
  |some c=>
   rw[zt3 (w:=")") (by decide) hc]
   simp only[qf3]
   cases pNames f c <;> rfl
  |none=>
   cases eat ")" (ts.drop 1) <;> rfl
theorem zcg{ts:List zcv}{x:Bytes}(h:Kp169.nameAt ts=some x):(ts.drop 1).length+1=ts.length:=by
 cases ts with
 |nil=>simp[Kp169.nameAt]at h
 |cons t r=>simp
def zwl(K:qfa)(ad:Ad):Sp:=λvs H Q E=>∃(rd dx lt ls:Addr)(ras:List Addr)(all:List zcv)(n:Nat)(xs:List Sx)(sts:List Addr)(f:Nat),vs=[.ref rd]/\RAt ad H rd dx lt ls ras all n xs sts ∧
 xs.length+(all.drop n).length<=20000/\16*(all.drop n).length+5<=f ∧
 match zb1 f (all.drop n) with
 |none=>zaw K ad.R E (-71) 0
 |some p=>∀H' n' sts',RAt ad H' rd dx lt ls ras all n' (xs++za7 p.1) sts'->all.drop n'=p.2->F2 H H' rd ls->Q .non H'
def zz9(K:qfa)(ad:Ad):Sp:=λvs H Q E=>∃(rd dx lt ls:Addr)(ras:List Addr)(all:List zcv)(n:Nat)(xs:List Sx)(sts:List Addr)(f:Nat),vs=[.ref rd]/\RAt ad H rd dx lt ls ras all n xs sts ∧
 (all.drop n).length<=f ∧
 match zfn f (all.drop n) with
 |none=>zaw K ad.R E (-71) 0
 |some p=>∀H' n' D,RAt ad H' rd dx lt ls ras all n' xs sts->all.drop n'=p.2->F1 H H' rd->H D=none->H' D=some (.lst (zbz p.1))->Q (.ref D) H'
theorem RAt.side{ad:Ad}{H:Hp}{rd dx lt ls:Addr}{ras:List Addr}{all:List zcv}{n:Nat}{xs:List Sx}{sts:List Addr}{D:Addr}{l l':List V}(R:RAt ad H rd dx lt ls ras all n xs sts)(hD:H D=some (.lst l))(h1:lt≠D)(h2:ls≠D):RAt ad (upd H D (.lst l')) rd dx lt ls ras all n xs sts:=by
 have k:∀{c:Addr}{o:HO},H c=some o->(∀l,o≠.lst l)->upd H D (.lst l') c=some o:=λ{c o} e z=>by
  rw[zai (λy=>by subst y;rw[hD]at e;cases e;exact z _ rfl)];exact e
 exact⟨k R.ob (λ_ z=>nomatch z),by rw[zai h1];exact R.tk,R.ne,λj t h=>by obtain⟨a,g1,g2⟩:=R.tok j t h;exact⟨a,g1,k g2 (λ_ z=>nomatch z)⟩,by obtain⟨a,g1,g2⟩:=R.en;exact⟨a,g1,k g2 (λ_ z=>nomatch z)⟩,by rw[zai h2];exact R.st,Paired.mapP R.ps λ_ _ q=>k q (λ_ z=>nomatch z),R.le,R.fine,R.few⟩
theorem F1.free{H H':Hp}{a b:Addr}{o:HO}(f:F1 H H' a)(ha:H' a=some o)(hb:H' b=none):H b=none:=by
 cases e:H b with
 |none=>rfl
 |some u=>
  by_cases h:b=a
  ·subst h;rw[ha]at hb;cases hb
  ·rw[f b u e h]at hb;cases hb
section
variable{P:Program}{w:World}{K:qfa}{mg:Str->Option Value}{base:Heap}{ad:Ad}
theorem zu1(T:Txt K mg ad):OkM P w K mg base 235 ad.Reader "read_meaning" ["self"] (zwl K ad):=by
 have O1:=zm8 (P:=P) (w:=w) (base:=base) T
 have O2:=qa6 (P:=P) (w:=w) (base:=base) T
 refine T.m_Reader_read_meaning.ok T.l_Reader zfv (λvs H Q E h=>?_) (λf cdv A outer s H vs Q E hr h=>?_)
 ·obtain⟨rd,dx,lt,ls,ras,all,n,xs,sts,f,rfl,_⟩:=h
  rfl
 ·obtain⟨rd,dx,lt,ls,ras,all,n,xs,sts,f,rfl,R,hx,hf,q⟩:=h
  have h4:Room 4 _:=hr.mono (by lia)
  unfold zb1 at q
  refine⟨_,zad (zal (cM O1 h4 zab (pv 0) (zaa zam zae)))
   (zad (zal (cM O2 hr zab (pv 0) (zaa zan zae)))
   (zaf (zal (cM O1 h4 zab (pv 0) (zaa zam zae))))),?_⟩
  refine⟨_,rfl,rd,dx,_,rfl,R.ob,rfl,rd,dx,lt,ls,ras,all,n,xs,sts,"=",rfl,R,w_eq,?_⟩
  cases he:eat "=" (all.drop n) with
  |none=>rw[he]at q;exact q
  |some r=>
   rw[he]at q
   dsimp only at q ⊢
   intro H1 v1 R1 hd1 f1
   have lr:=zap he
   refine⟨_,rfl,rd,dx,_,rfl,R1.ob,rfl,rd,dx,lt,ls,ras,all,n+1,xs,sts,f,rfl,R1,by rw[hd1];lia,by rw[hd1];lia,?_⟩
   rw[if_neg (by decide),hd1]
   cases hp:pExpr f 1 r with
   |none=>rw[hp]at q;exact q
   |some p=>
    rw[hp]at q
    dsimp only at q ⊢
    intro H2 n2 sts2 R2 hd2 f2
    refine⟨_,rfl,rd,dx,_,rfl,R2.ob,rfl,rd,dx,lt,ls,ras,all,n2,_,sts2,";",rfl,R2,qb2,?_⟩
    rw[hd2]
    cases hs:eat ";" p.2 with
    |none=>rw[hs]at q;exact q
    |some z=>
     rw[hs]at q
     dsimp only at q ⊢
     intro H3 v3 R3 hd3 f3
     exact q H3 (n2+1) sts2 R3 hd3 λc o h a1 a2=>f3 _ _ (f2 _ _ (f1 _ _ h a1) a1 a2) a1
theorem zxn(T:Txt K mg ad):OkM P w K mg base 5 ad.Reader "read_parameters" ["self"] (zz9 K ad):=by
 have O1:=zm8 (P:=P) (w:=w) (base:=base) T
 have O2:=zd5 (P:=P) (w:=w) (base:=base) T
 have O3:=znu (P:=P) (w:=w) (base:=base) T
 refine T.m_Reader_read_parameters.ok T.l_Reader c_Reader_read_parameters (λvs H Q E h=>?_) (λf cdv A outer s H vs Q E hr h=>?_)
 ·obtain⟨rd,dx,lt,ls,ras,all,n,xs,sts,f,rfl,_⟩:=h
  rfl
 ·obtain⟨rd,dx,lt,ls,ras,all,n,xs,sts,f,rfl,R,hf,q⟩:=h
  have h2:Room 2 _:=hr.mono (by decide:2<=4)
  unfold zfn at q
  refine⟨_,zad (zal (cM O1 hr zab (pv 0) (zaa zam zae)))
   (zad (za9 (zcf (cM O2 h2 zab (pv 0) (zaa zam zae))) (zaf (zaq (zbm zae))) zav)
   (zad (zao (i:=1) c_Reader_read_parameters.nd rfl (Or.inl rfl) (zbm (zaa (cM O3 hr zab (pv 0) (zaa zam zae)) zae)))
   (zad (zd4 zbk (zcf (cM O2 h2 zab (pv 0) (zaa zam zae)))
    (zaf (zal (zhr qf1 qgc qgd zbo (pv 1) (zaa (cM O3 hr zab (pv 0) (zaa zam zae)) zae)))))
   (zad (zal (cM O1 hr zab (pv 0) (zaa zam zae)))
   (zaf (zaq (pv 1))))))),?_⟩
  refine⟨_,rfl,rd,dx,_,rfl,R.ob,rfl,rd,dx,lt,ls,ras,all,n,xs,sts,"(",rfl,R,zwa,?_⟩
  cases he:eat "(" (all.drop n) with
  |none=>rw[he]at q;exact q
  |some o=>
   rw[he]at q
   dsimp only at q ⊢
   intro H1 v1 R1 hd1 f1
   have lo:=zap he
   refine⟨_,rfl,rd,dx,_,rfl,R1.ob,rfl,rd,dx,lt,ls,ras,all,n+1,xs,sts,")",rfl,R1,zj6,?_⟩
   rw[hd1]
   cases hc:eat ")" o with
   |some z=>
    rw[hc]at q
    dsimp only at q ⊢
    intro H2 R2 hd2 f2
    refine⟨_,rfl,(by show 0<=sizeLine;decide),λD nD=>?_⟩
    exact q _ (n+1+1) D (R2.toSame (zaj nD _)) hd2 (((f1.trans f2)).same (zaj nD _)) ((f1.trans f2).free R2.ob nD) zac
   |none=>
    rw[hc]at q
    dsimp only at q ⊢
    obtain⟨f0,rfl,hf0⟩:=zfr (a:=o.length) (by lia:o.length+1<=f)
    cases f0 with
    |zero=>
     have:o=[]:=List.eq_nil_of_length_eq_zero (by lia)
     subst this
     refine⟨_,rfl,?_⟩
     refine⟨_,rfl,rd,dx,_,rfl,R1.ob,rfl,rd,dx,lt,ls,ras,all,n+1,xs,sts,rfl,R1,?_⟩
     rw[hd1]
     rw[zhs]at q
     exact q
    |succ f0=>
    rw[zhs]at q
    refine⟨_,rfl,?_⟩
    refine⟨_,rfl,rd,dx,_,rfl,R1.ob,rfl,rd,dx,lt,ls,ras,all,n+1,xs,sts,rfl,R1,?_⟩
    rw[hd1]
    cases hn:Kp169.nameAt o with
    |none=>rw[hn]at q;exact q
    |some x=>
     rw[hn]at q
     dsimp only at q ⊢
     intro H2 R2 f2
     refine⟨(by show 1<=sizeLine;decide),λD nD=>?_⟩
     have ln:=zcg hn
     have F12:=f1.trans f2
     have nD0:H D=none:=F12.free R2.ob nD
     have hd2:all.drop (n+1+1)=o.drop 1:=by rw[zbp,hd1]
     rw[<-hd2]at q
     refine⟨λm σ H'=>∃(n':Nat)(ps:List Bytes)(f':Nat),σ=[some (.ref rd),some (.ref D)]/\RAt ad H' rd dx lt ls ras all n' xs sts/\F1 H H' rd/\H' D=some (.lst (zbz ps))/\(all.drop n').length<=f'/\ps.length+(all.drop n').length<=20000 ∧
      (match zow f' (all.drop n') with
       |none=>zaw K ad.R E (-71) 0
       |some l=>∀H'' n'',RAt ad H'' rd dx lt ls ras all n'' xs sts->all.drop n''=l.2->F1 H H'' rd->H'' D=some (.lst (zbz (ps++l.1)))->Q (.ref D) H'')/\m=(all.drop n').length,⟨_,n+1+1,[x],f0+1,rfl,R2.toSame (zaj nD _),F12.same (zaj nD _),zac,by rw[hd2];lia,?_,?_,rfl⟩,?_⟩
     ·have:=R.few
      have:([x]:List Bytes).length=1:=rfl
      simp only[qgj];lia
     ·cases ht:zow (f0+1) (all.drop (n+1+1)) with
      |none=>rw[ht]at q;exact q
      |some l=>
       rw[ht]at q
       dsimp only[qfy]at q ⊢
       intro H3 n3 R3 hd3 f3 e3
       exact q H3 n3 D R3 hd3 f3 nD0 e3
     ·rintro m σ H3 ⟨n3,ps,f3,rfl,R3,F3,e3,hf3,hp3,q3,rfl⟩
      unfold zow at q3
      have Drd:D≠rd:=zf9 e3 R3.ob (by intro z;cases z)
      refine⟨_,rfl,rd,dx,_,rfl,R3.ob,rfl,rd,dx,lt,ls,ras,all,n3,xs,sts,",",rfl,R3,zwb,?_⟩
      cases hcm:eat "," (all.drop n3) with
      |some c=>
       rw[hcm]at q3
       dsimp only at q3 ⊢
       intro H4 R4 hd4 f4
       have lc:=zap hcm
       obtain⟨f3',rfl,hf3'⟩:=zfr (a:=c.length) (by lia:c.length+1<=f3)
       refine⟨_,rfl,?_⟩
       refine⟨λσ' H'=>∃(n':Nat)(ps:List Bytes)(f':Nat),σ'=[some (.ref rd),some (.ref D)]/\RAt ad H' rd dx lt ls ras all n' xs sts/\F1 H H' rd/\H' D=some (.lst (zbz ps))/\(all.drop n').length<=f'/\ps.length+(all.drop n').length<=20000 ∧
        (match zow f' (all.drop n') with
         |none=>zaw K ad.R E (-71) 0
         |some l=>∀H'' n'',RAt ad H'' rd dx lt ls ras all n'' xs sts->all.drop n''=l.2->F1 H H'' rd->H'' D=some (.lst (zbz (ps++l.1)))->Q (.ref D) H'')/\(all.drop n').length<(all.drop n3).length,
        λσ' H' ⟨n',ps,f',a1,a2,a3,a4,a5,a6,a7,a8⟩=>⟨_,a8,n',ps,f',a1,a2,a3,a4,a5,a6,a7,rfl⟩,?_⟩
       refine⟨_,rfl,.inl ⟨rfl,_,SqL.of (f4 _ _ e3 Drd)⟩,_,rfl,rd,dx,_,rfl,R4.ob,rfl,rd,dx,lt,ls,ras,all,n3+1,xs,sts,rfl,R4,?_⟩
       rw[hd4]
       rw[zhs]at q3
       cases hn4:Kp169.nameAt c with
       |none=>rw[hn4]at q3;exact q3
       |some y=>
        rw[hn4]at q3
        dsimp only at q3 ⊢
        intro H5 R5 f5
        have ln5:=zcg hn4
        have e5:=f5 _ _ (f4 _ _ e3 Drd) Drd
        have hd5:all.drop (n3+1+1)=c.drop 1:=by rw[zbp,hd4]
        rw[<-hd5]at q3
        refine⟨D,_,_,rfl,rfl,e5,by rw[qe9];exact zhc (by lia),?_⟩
        have R6:=R5.side (l':=zbz ps++[.str (S y)]) e5 (zah R.tk nD0) (zah R.st nD0)
        refine⟨n3+1+1,ps++[y],f3',rfl,R6,λb o h nb=>?_,by rw[zac];simp[zbz],by rw[hd5];lia,?_,?_,by rw[hd5];lia⟩
        ·rw[zai (zah h nD0)]
         exact f5 _ _ (f4 _ _ (F3 _ _ h nb) nb) nb
        ·rw[hd5,qfb]
         have:([y]:List Bytes).length=1:=rfl
         lia
        ·cases ht:zow f3' (all.drop (n3+1+1)) with
         |none=>rw[ht]at q3;exact q3
         |some l=>
          rw[ht]at q3
          dsimp only[qfy]at q3 ⊢
          intro H7 n7 R7 hd7 f7 e7
          exact q3 H7 n7 R7 hd7 f7 (by rw[qf7]at e7;exact e7)
      |none=>
       rw[hcm]at q3
       dsimp only at q3 ⊢
       refine⟨_,rfl,?_⟩
       refine⟨_,rfl,rd,dx,_,rfl,R3.ob,rfl,rd,dx,lt,ls,ras,all,n3,xs,sts,")",rfl,R3,zj6,?_⟩
       cases hcl:eat ")" (all.drop n3) with
       |none=>rw[hcl]at q3;exact q3
       |some z=>
        rw[hcl]at q3
        dsimp only[qfy]at q3 ⊢
        intro H4 v4 R4 hd4 f4
        exact⟨_,rfl,q3 H4 (n3+1) R4 hd4 (F3.trans f4) (by rw[qgb];exact f4 _ _ e3 Drd)⟩
end
open Kp169 (Bytes isTok eat bytesOf number pExpr pArgs pMore power pNames pItem pItems sheetOf)
theorem zte(f:Nat)(ts:List zcv):pItem f ts=match eat "unit" ts with
  |some r=>(match Kp169.nameAt r with
   |none=>none
   |some x=>(eat ";" (r.drop 1)).map λz=>(.unit x,z))
  |none=>match eat "let" ts with
   |some r=>(match Kp169.nameAt r with
    |none=>none
    |some x=>(zb1 f (r.drop 1)).map λp=>(.let_ x p.1,p.2))
   |none=>match eat "fn" ts with
    |none=>none
    |some k=>match Kp169.nameAt k with
     |none=>none
     |some x=>match zfn f (k.drop 1) with
      |none=>none
      |some ps=>(zb1 f ps.2).map λp=>(.fn x ps.1 p.1,p.2):=by
 have dd:∀l:List zcv,l.drop 2=(l.drop 1).drop 1:=λl=>by rw[qie]
 unfold pItem
 rw[zbb (w:="unit")]
 cases isTok "unit" ts with
 |true=>
  simp only[if_true,bind,pure]
  cases Kp169.nameAt (ts.drop 1) with
  |none=>rfl
  |some x=>
   simp only[qf3,dd]
   cases eat ";" ((ts.drop 1).drop 1) <;> rfl
 |false=>
  simp only[qfz,if_false]
  rw[zbb (w:="let")]
  cases isTok "let" ts with
  |true=>
   simp only[if_true,bind,pure]
   cases Kp169.nameAt (ts.drop 1) with
   |none=>rfl
   |some x=>
    simp only[qf3,dd]
    unfold zb1
    cases eat "=" ((ts.drop 1).drop 1) with
    |none=>rfl
    |some q=>
     simp only[qf3]
     cases pExpr f 1 q with
     |none=>rfl
     |some e=>
      simp only[qf3]
      cases eat ";" e.2 <;> rfl
  |false=>
   simp only[qfz,if_false,bind,pure]
   cases eat "fn" ts with
   |none=>rfl
   |some k=>
    simp only[qf3]
    cases Kp169.nameAt k with
    |none=>rfl
    |some x=>
     simp only[qf3]
     unfold zfn
     cases eat "(" (k.drop 1) with
     |none=>rfl
     |some o=>
      simp only[qf3]
      have fin:∀ps:List Bytes×List zcv,((eat "=" ps.2).bind λq=>(pExpr f 1 q).bind λe=>(eat ";" e.2).bind λz=>some ((.fn x ps.1 e.1:zbq),z))=(zb1 f ps.2).map λp=>((.fn x ps.1 p.1:zbq),p.2):=λps=>by
       unfold zb1
       cases eat "=" ps.2 with
       |none=>rfl
       |some q=>
        simp only[qf3]
        cases pExpr f 1 q with
        |none=>rfl
        |some e=>
         simp only[qf3]
         cases eat ";" e.2 <;> rfl
      cases eat ")" o with
      |some z=>exact fin ([],z)
      |none=>
       simp only
       cases pNames f o with
       |none=>rfl
       |some ps=>exact fin ps
theorem zm4:∀(f:Nat)(ts:List zcv)(l:List Bytes)(r:List zcv),pNames f ts=some (l,r)->l.length+r.length<=ts.length/\(∀t∈r,t∈ts)
 |0,ts,l,r,h=>by simp[pNames]at h
 |f+1,ts,l,r,h=>by
  rw[zhs]at h
  cases hn:Kp169.nameAt ts with
  |none=>rw[hn]at h;cases h
  |some x=>
   rw[hn]at h
   dsimp only at h
   have l1:=zcg hn
   unfold zow at h
   cases hc:eat "," (ts.drop 1) with
   |some c=>
    rw[hc]at h
    dsimp only at h
    have l2:=zap hc
    cases hp:pNames f c with
    |none=>rw[hp]at h;cases h
    |some p=>
     rw[hp]at h
     simp only[qfy,qfl.injEq,Prod.mk.injEq]at h
     obtain⟨rfl,rfl⟩:=h
     have ih:=zm4 f c p.1 p.2 hp
     refine⟨by simp only[qfd];lia,λt ht=>qfv (za1 hc t (ih.2 t ht))⟩
   |none=>
    rw[hc]at h
    dsimp only at h
    cases hz:eat ")" (ts.drop 1) with
    |none=>rw[hz]at h;cases h
    |some z=>
     rw[hz]at h
     simp only[qfy,qfl.injEq,Prod.mk.injEq]at h
     obtain⟨rfl,rfl⟩:=h
     have l2:=zap hz
     exact⟨by simp only[qfd,qf5];lia,λt ht=>qfv (za1 hz t ht)⟩
theorem zht{f:Nat}{ts:List zcv}{p:KE×List zcv}(hi:In1 ts)(h:zb1 f ts=some p):Fi (za7 p.1) ts p.2:=by
 unfold zb1 at h
 cases he:eat "=" ts with
 |none=>rw[he]at h;cases h
 |some q=>
  rw[he]at h
  dsimp only at h
  have l1:=zap he
  cases hx:pExpr f 1 q with
  |none=>rw[hx]at h;cases h
  |some e=>
   rw[hx]at h
   dsimp only at h
   have G:=(gd f).expr _ _ _ _ (hi.of (za1 he) (by lia)) hx
   have m:=G.len
   cases hs:eat ";" e.2 with
   |none=>rw[hs]at h;cases h
   |some z=>
    rw[hs]at h
    cases h
    have l2:=zap hs
    exact⟨by dsimp only;lia,λt ht=>za1 he t (G.sub t (za1 hs t ht)),G.bnd⟩
theorem zje{f:Nat}{ts:List zcv}{p:List Bytes×List zcv}(h:zfn f ts=some p):p.1.length+p.2.length<=ts.length/\(∀t∈p.2,t∈ts):=by
 unfold zfn at h
 cases he:eat "(" ts with
 |none=>rw[he]at h;cases h
 |some o=>
  rw[he]at h
  dsimp only at h
  have l1:=zap he
  cases hc:eat ")" o with
  |some z=>
   rw[hc]at h
   cases h
   have l2:=zap hc
   exact⟨by simp only[qf5];lia,λt ht=>za1 he t (za1 hc t ht)⟩
  |none=>
   rw[hc]at h
   have:=zm4 f o p.1 p.2 h
   exact⟨by lia,λt ht=>za1 he t (this.2 t ht)⟩
structure qe5(i:zbq):Prop where
 len:(zb0 i).length<=10000
 bnd:∀x∈zb0 i,Bnd x
 par:(params i).length<=10000
theorem zm6{f:Nat}{ts:List zcv}{p:zbq×List zcv}(hi:In1 ts)(h:pItem f ts=some p):qe5 p.1/\p.2.length<ts.length/\(∀t∈p.2,t∈ts):=by
 rw[zte]at h
 have h10:=hi.2
 cases hu:eat "unit" ts with
 |some r=>
  rw[hu]at h
  dsimp only at h
  have l1:=zap hu
  cases hn:Kp169.nameAt r with
  |none=>rw[hn]at h;cases h
  |some x=>
   rw[hn]at h
   dsimp only at h
   have l2:=zcg hn
   cases hs:eat ";" (r.drop 1) with
   |none=>rw[hs]at h;cases h
   |some z=>
    rw[hs]at h
    cases h
    have l3:=zap hs
    exact⟨⟨by simp[zb0],λx hx=>by simp[zb0]at hx,by simp[params]⟩,by dsimp only;lia,λt ht=>za1 hu t (qfv (za1 hs t ht))⟩
 |none=>
  rw[hu]at h
  dsimp only at h
  cases hl:eat "let" ts with
  |some r=>
   rw[hl]at h
   dsimp only at h
   have l1:=zap hl
   cases hn:Kp169.nameAt r with
   |none=>rw[hn]at h;cases h
   |some x=>
    rw[hn]at h
    dsimp only at h
    have l2:=zcg hn
    cases hm:zb1 f (r.drop 1) with
    |none=>rw[hm]at h;cases h
    |some q=>
     rw[hm]at h
     cases h
     have G:=zht (hi.of (λt ht=>za1 hl t (qfv ht)) (by lia)) hm
     have m:=G.len
     exact⟨⟨by show (za7 q.1).length<=_;lia,G.bnd,by simp[params]⟩,by dsimp only;lia,λt ht=>za1 hl t (qfv (G.sub t ht))⟩
  |none=>
   rw[hl]at h
   dsimp only at h
   cases hf:eat "fn" ts with
   |none=>rw[hf]at h;cases h
   |some k=>
    rw[hf]at h
    dsimp only at h
    have l1:=zap hf
    cases hn:Kp169.nameAt k with
    |none=>rw[hn]at h;cases h
    |some x=>
     rw[hn]at h
     dsimp only at h
     have l2:=zcg hn
     cases hp:zfn f (k.drop 1) with
     |none=>rw[hp]at h;cases h
     |some ps=>
      rw[hp]at h
      dsimp only at h
      have P:=zje hp
      cases hm:zb1 f ps.2 with
      |none=>rw[hm]at h;cases h
      |some q=>
       rw[hm]at h
       cases h
       have sub:∀t∈ps.2,t∈ts:=λt ht=>za1 hf t (qfv (P.2 t ht))
       have G:=zht (hi.of sub (by lia)) hm
       have m:=G.len
       exact⟨⟨by show (za7 q.1).length<=_;lia,G.bnd,by show ps.1.length<=_;lia⟩,by dsimp only;lia,λt ht=>sub t (G.sub t ht)⟩
theorem zpi(k f:Nat)(ts:List zcv)(h:ts≠[]):pItems (k+1) f ts=match pItem f ts with
  |none=>none
  |some a=>(pItems k f a.2).map λl=>a.1::l:=by
 cases ts with
 |nil=>exact absurd rfl h
 |cons t r=>
  simp only[pItems,bind,pure]
  cases pItem f (t::r) with
  |none=>rfl
  |some a=>
   simp only[qf3]
   cases pItems k f a.2 <;> rfl
theorem zm5(k f:Nat):pItems k f []=some []:=by cases k <;> simp[pItems]
theorem zks:∀(k f:Nat)(ts:List zcv)(l:List zbq),In1 ts->pItems k f ts=some l->(∀i∈l,qe5 i)/\l.length<=ts.length
 |k,f,[],l,_,h=>by
  rw[zm5]at h;cases h
  exact⟨λi hi=>by simp at hi,qfh _⟩
 |0,f,t::r,l,_,h=>by simp[pItems]at h
 |k+1,f,t::r,l,hi,h=>by
  rw[zpi _ _ _ (by simp)]at h
  cases hp:pItem f (t::r) with
  |none=>rw[hp]at h;cases h
  |some a=>
   rw[hp]at h
   dsimp only at h
   obtain⟨g1,g2,g3⟩:=zm6 hi hp
   cases hl:pItems k f a.2 with
   |none=>rw[hl]at h;cases h
   |some m=>
    rw[hl]at h
    cases h
    obtain⟨j1,j2⟩:=zks k f a.2 m (hi.of g3 (by lia)) hl
    refine⟨λi hm=>?_,by simp only[qfd]at g2 ⊢;lia⟩
    rcases qfo.mp hm with rfl|hm
    ·exact g1
    ·exact j1 i hm
def ItemX(ad:Ad)(H:Hp)(a lp ls:Addr)(i:zbq):Prop:=∃(dx:Addr)(ts:List Addr),H a=some (.ins ad.Item dx (itf (zfa i) (S i.name) lp ls))/\H lp=some (.lst (zbz (params i)))/\H ls=some (.lst (ts.map V.ref))/\Paired (λt x=>H t=some (.tup (sxV x))) ts (zb0 i)
theorem ItemX.at{ad:Ad}{H:Hp}{a lp ls:Addr}{i:zbq}(h:ItemX ad H a lp ls i):ItemAt ad H a i:=by
 obtain⟨dx,ts,h1,h2,h3,h4⟩:=h
 exact⟨dx,lp,ls,ts,h1,h2,h3,h4⟩
theorem ItemX.keep{ad:Ad}{H H':Hp}{a lp ls:Addr}{i:zbq}(h:ItemX ad H a lp ls i)(ka:∀o,H a=some o->H' a=some o)(kl:∀b l,(b=lp\/b=ls)->H b=some (.lst l)->H' b=some (.lst l))(kt:∀b l,H b=some (.tup l)->H' b=some (.tup l)):ItemX ad H' a lp ls i:=by
 obtain⟨dx,ts,h1,h2,h3,h4⟩:=h
 exact⟨dx,ts,ka _ h1,kl _ _ (.inl rfl) h2,kl _ _ (.inr rfl) h3,Paired.mapP h4 λ_ _ q=>kt _ _ q⟩
def qdf(ad:Ad):Sp:=λvs H Q _=>∃(p dx lp ls:Addr)(wd x:Str),vs=[.ref p,.str wd,.str x,.ref lp,.ref ls]/\H p=some (.ins ad.Item dx [])/\∀H',H' p=some (.ins ad.Item dx (itf wd x lp ls))->(∀b o,H b=some o->b≠p->H' b=some o)->Q .non H'
def zwj(ad:Ad):Sp:=λvs H Q _=>∃(p dx b:Addr)(rs:List Addr),vs=[.ref p,.ref b]/\H p=some (.ins ad.Reader dx [])/\H b=some (.lst (rs.map V.ref))/\rs.length<=100000/\∀H' lt ls pe,H lt=none->H ls=none->H pe=none->lt≠ls->H' p=some (.ins ad.Reader dx (rf lt 0 ls))->H' lt=some (.lst ((rs++[pe]).map V.ref))->H' pe=some (.tup [.str "end",.str ""])->H' ls=some (.lst []) ->
 (∀b o,H b=some o->b≠p->H' b=some o)->Q .non H'
theorem RAt.fresh{ad:Ad}{H:Hp}{rd dx lt ls ls':Addr}{ras:List Addr}{all:List zcv}{n:Nat}{xs:List Sx}{sts:List Addr}(R:RAt ad H rd dx lt ls ras all n xs sts)(hn:H ls'=none):RAt ad (upd (upd H ls' (.lst [])) rd (.ins ad.Reader dx (rf lt n ls'))) rd dx lt ls' ras all n [] []:=by
 have k:∀{c:Addr}{o:HO},H c=some o->(∀C d fs,o≠.ins C d fs)->upd (upd H ls' (.lst [])) rd (.ins ad.Reader dx (rf lt n ls')) c=some o:=λ{c o} e z=>by
  rw[zai (λy=>by subst y;rw[R.ob]at e;cases e;exact z _ _ _ rfl),zai (zah e hn)];exact e
 have hr:ls'≠rd:=(zah R.ob hn).symm
 exact⟨zac,k R.tk (λ_ _ _ z=>nomatch z),zah R.tk hn,λj t h=>by obtain⟨a,h1,h2⟩:=R.tok j t h;exact⟨a,h1,k h2 (λ_ _ _ z=>nomatch z)⟩,by obtain⟨a,h1,h2⟩:=R.en;exact⟨a,h1,k h2 (λ_ _ _ z=>nomatch z)⟩,by rw[zai hr,zac];rfl,Paired.nil,R.le,R.fine,R.few⟩
def qc6(K:qfa)(ad:Ad):Sp:=λvs H Q E=>∃(rd dx lt ls:Addr)(ras:List Addr)(all:List zcv)(n:Nat)(xs:List Sx)(sts:List Addr)(f:Nat),vs=[.ref rd]/\RAt ad H rd dx lt ls ras all n xs sts ∧
 16*(all.drop n).length+16<=f ∧
 match pItem f (all.drop n) with
 |none=>zaw K ad.R E (-71) 0
 |some p=>∀H' n' ls' xs' sts' a lp li,RAt ad H' rd dx lt ls' ras all n' xs' sts'->all.drop n'=p.2->F1 H H' rd->H a=none->H lp=none->H li=none->H ls'=none->ItemX ad H' a lp li p.1->Q (.ref a) H'
def qc3(K:qfa)(ad:Ad):Sp:=λvs H Q E=>∃(rd dx lt ls:Addr)(ras:List Addr)(all:List zcv)(n:Nat)(xs:List Sx)(sts:List Addr)(k f:Nat),vs=[.ref rd]/\RAt ad H rd dx lt ls ras all n xs sts ∧
 16*(all.drop n).length+16<=f/\(all.drop n).length<=k ∧
 match pItems k f (all.drop n) with
 |none=>zaw K ad.R E (-71) 0
 |some l=>∀H' D is,H D=none->F1 H H' rd->H' D=some (.lst (is.map V.ref))->Paired (λa i=>ItemAt ad H' a i) is l->Q (.ref D) H'
section
variable{P:Program}{w:World}{K:qfa}{mg:Str->Option Value}{base:Heap}{ad:Ad}
theorem qei(T:Txt K mg ad):OkC P w K mg base 1 "Item" ad.Item ["self","word","name","parameters","steps"] (qdf ad):=by
 obtain⟨f,fd,M,F,hb⟩:=T.i_Item
 refine⟨T.g_Item,f,fd,M,hb,F.okX zsd (λvs H Q E h=>?_) (λcdv A outer s H vs Q E hr h=>?_)⟩
 ·obtain⟨p,dx,lp,ls,wd,x,rfl,_⟩:=h
  rfl
 ·obtain⟨p,dx,lp,ls,wd,x,rfl,hp,q⟩:=h
  refine⟨_,zad (zb7 (pv 0) (pv 1) rfl) (zad (zb7 (pv 0) (pv 2) rfl) (zad (zb7 (pv 0) (pv 3) rfl) (zaf (zb7 (pv 0) (pv 4) rfl)))),?_⟩
  refine⟨_,rfl,_,rfl,p,ad.Item,dx,_,rfl,hp,T.l_Item,T.n_Item_word,(by show 0<1000;decide),_,rfl,_,rfl,p,ad.Item,dx,_,rfl,zac,T.l_Item,T.n_Item_name,(by show 1<1000;decide),_,rfl,_,rfl,p,ad.Item,dx,_,rfl,zac,T.l_Item,T.n_Item_parameters,(by show 2<1000;decide),_,rfl,_,rfl,p,ad.Item,dx,_,rfl,zac,T.l_Item,T.n_Item_steps,(by show 3<1000;decide),?_⟩
  exact q _ zac λb o e nb=>by rw[zai nb,zai nb,zai nb,zai nb];exact e
theorem zxv(T:Txt K mg ad):OkC P w K mg base 1 "Reader" ad.Reader ["self","tokens"] (zwj ad):=by
 obtain⟨f,fd,M,F,hb⟩:=T.i_Reader
 obtain⟨t1,hE⟩:=T.k_END
 refine⟨T.g_Reader,f,fd,M,hb,F.okX zoe (λvs H Q E h=>?_) (λcdv A outer s H vs Q E hr h=>?_)⟩
 ·obtain⟨p,dx,b,rs,rfl,_⟩:=h
  rfl
 ·obtain⟨p,dx,b,rs,rfl,hp,hb,hl,q⟩:=h
  refine⟨_,zad (zb7 (pv 0) (za8 zdr (pv 1) (zbm (zaa (zkr (zaa (zat (v:=.str "end") rfl hE ⟨_,rfl⟩) (zaa zam zae))) zae))) rfl) (zad (zb7 (pv 0) zan rfl) (zaf (zb7 (pv 0) (zbm zae) rfl))),?_⟩
  refine⟨_,rfl,(by show 2<=sizeLine;decide),λpe npe=>?_⟩
  have s1:=zaj (o:=HO.tup [V.str "end",V.str ""]) npe
  refine⟨(by show 1<=sizeLine;decide),λl1 nl1=>?_⟩
  have s2:=zaj (o:=HO.lst [V.ref pe]) nl1
  refine⟨b,l1,_,_,rfl,rfl,s2 _ _ (s1 _ _ hb),zac,by rw[qe9];exact big (by simp;lia),λlt nlt=>?_⟩
  have s3:=zaj (o:=HO.lst (rs.map V.ref++[V.ref pe])) nlt
  have S3:=s1.trans (s2.trans s3)
  refine⟨_,rfl,p,ad.Reader,dx,_,rfl,S3 _ _ hp,T.l_Reader,T.n_Reader_tokens,(by show 0<1000;decide),?_⟩
  refine⟨_,rfl,p,ad.Reader,dx,_,rfl,zac,T.l_Reader,T.n_Reader_position,(by show 1<1000;decide),(by show 0<=sizeLine;decide),λls nls=>?_⟩
  have pls:p≠ls:=zah zac nls
  refine⟨_,rfl,p,ad.Reader,dx,_,rfl,(by rw[zai pls,zac]),T.l_Reader,T.n_Reader_steps,(by show 2<1000;decide),?_⟩
  rw[zai pls.symm,zai pls.symm]at nls
  have plt:p≠lt:=zah (s2 _ _ (s1 _ _ hp)) nlt
  have ppe:p≠pe:=zah hp npe
  have ltls:lt≠ls:=λz=>by subst z;rw[zac]at nls;cases nls
  have pels:pe≠ls:=zah (s3 _ _ (s2 _ _ zac)) nls
  refine q _ lt ls pe ((s1.trans s2).free nlt) (S3.free nls) npe ltls zac ?_ ?_ ?_ λb o e nb=>?_
  ·rw[zai plt.symm,zai ltls,zai plt.symm,zai plt.symm,zac,qfg];rfl
  ·rw[zai ppe.symm,zai pels,zai ppe.symm,zai ppe.symm]
   exact s3 _ _ (s2 _ _ zac)
  ·rw[zai pls.symm,zac]
  ·rw[zai nb,zai (zah (S3 _ _ e) nls),zai nb,zai nb]
   exact S3 _ _ e
theorem qaz(T:Txt K mg ad):OkM P w K mg base 236 ad.Reader "read_item" ["self"] (qc6 K ad):=by
 have O1:=zm8 (P:=P) (w:=w) (base:=base) T
 have O2:=zd5 (P:=P) (w:=w) (base:=base) T
 have O3:=znu (P:=P) (w:=w) (base:=base) T
 have O4:=qei (P:=P) (w:=w) (base:=base) T
 have O5:=zu1 (P:=P) (w:=w) (base:=base) T
 have O6:=zxn (P:=P) (w:=w) (base:=base) T
 refine T.m_Reader_read_item.ok T.l_Reader c_Reader_read_item (λvs H Q E h=>?_) (λf cdv A outer s H vs Q E hr h=>?_)
 ·obtain⟨rd,dx,lt,ls,ras,all,n,xs,sts,f,rfl,_⟩:=h
  rfl
 ·obtain⟨rd,dx,lt,ls,ras,all,n,xs,sts,f,rfl,R,hf,q⟩:=h
  have h5:Room 5 _:=hr.mono (by lia)
  have h4:Room 4 _:=hr.mono (by lia)
  have h2:Room 2 _:=hr.mono (by lia)
  rw[zte]at q
  refine⟨_,zad (zb7 (pv 0) (zbm zae) rfl)
   (zad (za9 (zcf (cM O2 h2 zab (pv 0) (zaa zam zae)))
    (zad (zao (i:=1) c_Reader_read_item.nd rfl (Or.inl rfl) (cM O3 h4 zab (pv 0) (zaa zam zae)))
    (zad (zal (cM O1 h4 zab (pv 0) (zaa zam zae)))
    (zaf (zaq (cC O4 h2 zab (zaa zam (zaa (pv 1) (zaa (zbm zae) (zaa (zbm zae) zae))))))))) zav)
   (zad (za9 (zcf (cM O2 h2 zab (pv 0) (zaa zam zae)))
    (zad (zao (i:=1) c_Reader_read_item.nd rfl (Or.inl rfl) (cM O3 h4 zab (pv 0) (zaa zam zae)))
    (zad (zal (cM0 O5 hr zab (pv 0)))
    (zaf (zaq (cC O4 h2 zab (zaa zam (zaa (pv 1) (zaa (zbm zae) (zaa (zas (pv 0) rfl) zae))))))))) zav)
   (zad (zal (cM O1 h4 zab (pv 0) (zaa zam zae)))
   (zad (zao (i:=1) c_Reader_read_item.nd rfl (Or.inl rfl) (cM O3 h4 zab (pv 0) (zaa zam zae)))
   (zad (zao (i:=2) c_Reader_read_item.nd rfl (Or.inl rfl) (cM0 O6 h5 zab (pv 0)))
   (zad (zal (cM0 O5 hr zab (pv 0)))
   (zaf (zaq (cC O4 h2 zab (zaa zam (zaa (pv 1) (zaa (pv 2) (zaa (zas (pv 0) rfl) zae))))))))))))),?_⟩
  refine⟨(by show 0<=sizeLine;decide),λl0 nl0=>?_⟩
  have R0:=R.fresh nl0
  have f0:F1 H (upd (upd H l0 (.lst [])) rd (.ins ad.Reader dx (rf lt n l0))) rd:=λb o h nb=>by rw[zai nb,zai (zah h nl0)];exact h
  have rl0:rd≠l0:=zah R.ob nl0
  refine⟨_,rfl,rd,ad.Reader,dx,_,rfl,by rw[zai rl0];exact R.ob,T.l_Reader,T.n_Reader_steps,(by show 3<1000;decide),?_⟩
  have few:=R.few
  have ld:(all.drop n).length<=all.length:=by simp
  show tSeq _ _ _ _ (upd (upd H l0 (.lst [])) rd (.ins ad.Reader dx (rf lt n l0)))
  generalize upd (upd H l0 (.lst [])) rd (.ins ad.Reader dx (rf lt n l0))=H0 at R0 f0
  refine⟨_,rfl,rd,dx,_,rfl,R0.ob,rfl,rd,dx,lt,l0,ras,all,n,[],[],"unit",rfl,R0,w_unit,?_⟩
  have fin:∀{Hk:Hp}{nk:Nat}{xsk:List Sx}{stk:List Addr}{a dxa lp li:Addr}{H4 Hm:Hp}{o1:HO},RAt ad Hk rd dx lt l0 ras all nk xsk stk->F1 H Hk rd->Same Hk Hm->Hm a=none->Hm dxa=none ->
    (∀b o,(upd (upd Hm dxa (.own a)) a o1) b=some o->b≠a->H4 b=some o)->RAt ad H4 rd dx lt l0 ras all nk xsk stk/\F1 H H4 rd/\H a=none/\(∀b o,Hm b=some o->H4 b=some o):=by
   intro Hk nk xsk stk a dxa lp li H4 Hm o1 Rk Fk sm na nd f4
   have s4:Same Hm H4:=λb o h=>f4 _ _ (by rw[zai (zah h na),zai (zah h nd)];exact h) (zah h na)
   exact⟨Rk.toSame (sm.trans s4),Fk.same (sm.trans s4),Fk.free Rk.ob (sm.free na),s4⟩
  cases hu:eat "unit" (all.drop n) with
  |some r=>
   rw[hu]at q
   dsimp only at q ⊢
   intro H1 R1 hd1 f1
   refine⟨_,rfl,?_⟩
   refine⟨_,rfl,rd,dx,_,rfl,R1.ob,rfl,rd,dx,lt,l0,ras,all,n+1,[],[],rfl,R1,?_⟩
   rw[hd1]
   cases hn:Kp169.nameAt r with
   |none=>rw[hn]at q;exact q
   |some x=>
    rw[hn]at q
    dsimp only at q ⊢
    intro H2 R2 f2
    have hd2:all.drop (n+1+1)=r.drop 1:=by rw[zbp,hd1]
    refine⟨_,rfl,rd,dx,_,rfl,R2.ob,rfl,rd,dx,lt,l0,ras,all,n+1+1,[],[],";",rfl,R2,qb2,?_⟩
    rw[hd2]
    cases hs:eat ";" (r.drop 1) with
    |none=>rw[hs]at q;exact q
    |some z=>
     rw[hs]at q
     dsimp only[qfy]at q ⊢
     intro H3 v3 R3 hd3 f3
     have Ft:=((f0.trans f1).trans f2).trans f3
     refine⟨_,rfl,(by show 0<=sizeLine;decide),λlp nlp=>?_⟩
     have s1:=zaj (o:=HO.lst []) nlp
     refine⟨(by show 0<=sizeLine;decide),λli nli=>?_⟩
     have s2:=zaj (o:=HO.lst []) nli
     intro a dxa na ndx hne
     refine⟨a,dxa,lp,li,"unit",S x,rfl,zac,λH4 e4 f4=>⟨rfl,?_⟩⟩
     obtain⟨g1,g2,g3,g4⟩:=fin (lp:=lp) (li:=li) R3 Ft (s1.trans s2) na ndx f4
     refine q H4 _ l0 [] [] a lp li g1 hd3 g2 g3 (Ft.free R3.ob nlp) (Ft.free R3.ob (s1.free nli)) nl0 ⟨dxa,[],e4,g4 _ _ (s2 _ _ zac),g4 _ _ zac,Paired.nil⟩
  |none=>
   rw[hu]at q
   dsimp only at q ⊢
   refine⟨_,rfl,?_⟩
   refine⟨_,rfl,rd,dx,_,rfl,R0.ob,rfl,rd,dx,lt,l0,ras,all,n,[],[],"let",rfl,R0,w_let,?_⟩
   cases hl:eat "let" (all.drop n) with
   |some r=>
    rw[hl]at q
    dsimp only at q ⊢
    intro H1 R1 hd1 f1
    have l1:=zap hl
    refine⟨_,rfl,?_⟩
    refine⟨_,rfl,rd,dx,_,rfl,R1.ob,rfl,rd,dx,lt,l0,ras,all,n+1,[],[],rfl,R1,?_⟩
    rw[hd1]
    cases hn:Kp169.nameAt r with
    |none=>rw[hn]at q;exact q
    |some x=>
     rw[hn]at q
     dsimp only at q ⊢
     intro H2 R2 f2
     have l2:=zcg hn
     have hd2:all.drop (n+1+1)=r.drop 1:=by rw[zbp,hd1]
     refine⟨_,rfl,rd,dx,_,rfl,R2.ob,rfl,rd,dx,lt,l0,ras,all,n+1+1,[],[],f,rfl,R2,by rw[hd2,qf5];lia,by rw[hd2];lia,?_⟩
     rw[hd2]
     cases hm:zb1 f (r.drop 1) with
     |none=>rw[hm]at q;exact q
     |some p=>
      rw[hm]at q
      dsimp only[qfy]at q ⊢
      intro H3 n3 sts3 R3 hd3 f3
      have Ft:F1 H H3 rd:=λb o h nb=>f3 _ _ (f2 _ _ (f1 _ _ (f0 _ _ h nb) nb) nb) nb (zah h nl0)
      refine⟨_,rfl,(by show 0<=sizeLine;decide),λlp nlp=>?_⟩
      have s1:=zaj (o:=HO.lst []) nlp
      have R3':=R3.toSame s1
      refine⟨_,rfl,rd,ad.Reader,dx,_,_,rfl,R3'.ob,T.l_Reader,T.n_Reader_steps,rfl,?_⟩
      intro a dxa na ndx hne
      refine⟨a,dxa,lp,l0,"let",S x,rfl,zac,λH4 e4 f4=>⟨rfl,?_⟩⟩
      obtain⟨g1,g2,g3,g4⟩:=fin (lp:=lp) (li:=l0) R3 Ft s1 na ndx f4
      refine q H4 _ l0 _ _ a lp l0 g1 hd3 g2 g3 (Ft.free R3.ob nlp) nl0 nl0 ⟨dxa,sts3,e4,g4 _ _ zac,g1.st,by have:=g1.ps;rw[qgm]at this;exact this⟩
   |none=>
    rw[hl]at q
    dsimp only at q ⊢
    refine⟨_,rfl,?_⟩
    refine⟨_,rfl,rd,dx,_,rfl,R0.ob,rfl,rd,dx,lt,l0,ras,all,n,[],[],"fn",rfl,R0,w_fn,?_⟩
    cases hfn:eat "fn" (all.drop n) with
    |none=>rw[hfn]at q;exact q
    |some r=>
     rw[hfn]at q
     dsimp only at q ⊢
     intro H1 v1 R1 hd1 f1
     have l1:=zap hfn
     refine⟨_,rfl,rd,dx,_,rfl,R1.ob,rfl,rd,dx,lt,l0,ras,all,n+1,[],[],rfl,R1,?_⟩
     rw[hd1]
     cases hn:Kp169.nameAt r with
     |none=>rw[hn]at q;exact q
     |some x=>
      rw[hn]at q
      dsimp only at q ⊢
      intro H2 R2 f2
      have l2:=zcg hn
      have hd2:all.drop (n+1+1)=r.drop 1:=by rw[zbp,hd1]
      refine⟨_,rfl,rd,dx,_,rfl,R2.ob,rfl,rd,dx,lt,l0,ras,all,n+1+1,[],[],f,rfl,R2,by rw[hd2];lia,?_⟩
      rw[hd2]
      cases hpp:zfn f (r.drop 1) with
      |none=>rw[hpp]at q;exact q
      |some ps=>
       rw[hpp]at q
       dsimp only at q ⊢
       intro H3 n3 D R3 hd3 f3 nD e3
       have pl:=(zje hpp).1
       have F02:=(f0.trans f1).trans f2
       have nD0:H D=none:=F02.free R2.ob nD
       have Dl0:D≠l0:=(zah R2.st nD).symm
       have Drd:D≠rd:=zf9 e3 R3.ob (by intro z;cases z)
       refine⟨_,rfl,rd,dx,_,rfl,R3.ob,rfl,rd,dx,lt,l0,ras,all,n3,[],[],f,rfl,R3,by rw[hd3,qf5];lia,by rw[hd3];lia,?_⟩
       rw[hd3]
       cases hm:zb1 f ps.2 with
       |none=>rw[hm]at q;exact q
       |some p=>
        rw[hm]at q
        dsimp only[qfy]at q ⊢
        intro H4 n4 sts4 R4 hd4 f4
        have Ft:F1 H H4 rd:=λb o h nb=>f4 _ _ (f3 _ _ (F02 _ _ h nb) nb) nb (zah h nl0)
        have e4D:=f4 _ _ e3 Drd Dl0
        refine⟨_,rfl,_,rfl,_,rfl,rd,ad.Reader,dx,_,_,rfl,R4.ob,T.l_Reader,T.n_Reader_steps,rfl,?_⟩
        intro a dxa na ndx hne
        refine⟨a,dxa,D,l0,"fn",S x,rfl,zac,λH5 e5 f5=>⟨rfl,?_⟩⟩
        obtain⟨g1,g2,g3,g4⟩:=fin (lp:=D) (li:=l0) R4 Ft (Same.refl _) na ndx f5
        refine q H5 _ l0 _ _ a D l0 g1 hd4 g2 g3 nD0 nl0 nl0 ⟨dxa,sts4,e5,g4 _ _ e4D,g1.st,by have:=g1.ps;rw[qgm]at this;exact this⟩
end
open Kp169 (Bytes isTok eat bytesOf number pExpr pArgs pMore power pNames pItem pItems sheetOf Known)
theorem qdt{α β:Type}{R:α->β->Prop}:∀{l:List α}{m:List β}{i:Nat}{b:β},Paired R l m->m[i]?=some b->∃a,l[i]?=some a/\R a b
 |_,_,_,_,.nil,h=>by simp at h
 |_,_,0,_,.cons a t,h=>by simp at h;subst h;exact⟨_,rfl,a⟩
 |_,_,i+1,_,.cons a t,h=>by
  obtain⟨s,h1,h2⟩:=qdt (i:=i) t (by simpa using h)
  exact⟨s,by simpa using h1,h2⟩
def Far(ad:Ad)(H:Hp)(rd D:Addr)(a:Addr)(i:zbq):Prop:=a≠rd/\∃lp li,lp≠D/\li≠D/\ItemX ad H a lp li i
theorem Far.f1{ad:Ad}{H H':Hp}{rd D a dx C:Addr}{fs:List (Str×V)}{i:zbq}(h:Far ad H rd D a i)(f:F1 H H' rd)(hr:H rd=some (.ins C dx fs)):Far ad H' rd D a i:=by
 obtain⟨h1,lp,li,h2,h3,x⟩:=h
 exact⟨h1,lp,li,h2,h3,x.keep (λo e=>f _ _ e h1) (λb l _ e=>f _ _ e (zf9 e hr (by intro z;cases z))) λb l e=>f _ _ e (zf9 e hr (by intro z;cases z))⟩
theorem Far.upd{ad:Ad}{H:Hp}{rd D a:Addr}{l:List V}{o:HO}{i:zbq}(h:Far ad H rd D a i)(hD:H D=some (.lst l)):Far ad (upd H D o) rd D a i:=by
 obtain⟨h1,lp,li,h2,h3,x⟩:=h
 refine⟨h1,lp,li,h2,h3,x.keep (λu e=>?_) (λb l hb e=>?_) λb l e=>?_⟩
 ·rw[zai];exact e
  obtain⟨dx,ts,x1,_⟩:=x
  exact zf9 x1 hD (by intro z;cases z)
 ·rw[zai];exact e
  rcases hb with rfl|rfl
  ·exact h2
  ·exact h3
 ·rw[zai (zf9 e hD (by intro z;cases z))];exact e
def qdd(K:qfa)(ad:Ad):Sp:=λvs H Q E=>∃(b:Addr)(rs:List Addr)(ts:List zcv),vs=[.ref b]/\H b=some (.lst (rs.map V.ref))/\Paired (λp t=>zsf H p t) rs ts/\(∀t∈ts,zlr t)/\ts.length<=10000 ∧
 match sheetOf ts with
 |none=>zaw K ad.R E (-71) 0
 |some l=>∀H' D is,Same H H'->H' D=some (.lst (is.map V.ref))->Paired (λa i=>ItemAt ad H' a i) is l->Q (.ref D) H'
noncomputable def zjl(b:Bytes):(Int×Nat) ⊕ Known:=if 8192<b.length then .inl (-28,0) else match Kp169.tokens b with
 |none=>.inl (-71,0)
 |some ts=>if 2048<ts.length then .inl (-28,0) else match sheetOf ts with
  |none=>.inl (-71,0)
  |some l=>zke l
def qc5(K:qfa)(ad:Ad):Sp:=λvs H Q E=>∃(p:Addr)(b:Bytes),vs=[.ref p]/\SqL K H p ((zn1 b).map V.int)/\TOk ad H ∧
 match zjl b with
 |.inl x=>zaw K ad.R E x.1 x.2
 |.inr known=>∀(b':Addr)(as:List Addr)(H':Hp),H' b'=some (.lst (as.map V.ref))->Paired (λa (q:Bytes×zhb)=>KindAt ad H' a q.2) as known->TOk ad H'->Q (.ref b') H'
theorem qe0{x:Sx}(h:Bnd x):-1000<sxI x/\sxI x<1000000:=by
 cases x with
 |call f n=>exact⟨by show (-1000:Int)<(n:Int);lia,by show (n:Int)<1000000;have h:n<1000000:=h;lia⟩
 |pw k=>exact⟨h.1,by have h:k<1000:=h.2;show k<1000000;lia⟩
 |name y=>exact⟨by show (-1000:Int)<0;decide,by show (0:Int)<1000000;decide⟩
 |_=>exact⟨by decide,by decide⟩
theorem fineI{i:zbq}(h:qe5 i):Fine i:=⟨h.len,λx hx=>qe0 (h.bnd x hx)⟩
section
variable{P:Program}{w:World}{K:qfa}{mg:Str->Option Value}{base:Heap}{ad:Ad}
theorem qaw(T:Txt K mg ad):OkM P w K mg base 237 ad.Reader "read_sheet" ["self"] (qc3 K ad):=by
 have O1:=zjw (P:=P) (w:=w) (base:=base) T
 have O2:=qaz (P:=P) (w:=w) (base:=base) T
 obtain⟨t1,hEnd⟩:=T.k_END
 refine T.m_Reader_read_sheet.ok T.l_Reader c_Reader_read_sheet (λvs H Q E h=>?_) (λf cdv A outer s H vs Q E hr h=>?_)
 ·obtain⟨rd,dx,lt,ls,ras,all,n,xs,sts,k,f,rfl,_⟩:=h
  rfl
 ·obtain⟨rd,dx,lt,ls,ras,all,n,xs,sts,k,f,rfl,R,hf,hk,q⟩:=h
  have h1:Room 1 _:=hr.mono (by lia)
  refine⟨_,zad (zao (i:=1) c_Reader_read_sheet.nd rfl (Or.inl rfl) (zbm zae))
   (zad (zd4 zbk (zar zpk (cM0 O1 h1 zab (pv 0)) (zat (v:=.str "end") rfl hEnd ⟨_,rfl⟩) (zaz _))
    (zaf (zal (zhr qf1 qgc qgd zbo (pv 1) (zaa (cM0 O2 hr zab (pv 0)) zae)))))
   (zaf (zaq (pv 1)))),?_⟩
  refine⟨(by show 0<=sizeLine;decide),λD nD=>?_⟩
  have few:=R.few
  have ldl:(all.drop n).length<=all.length:=by simp
  refine⟨λm σ H'=>∃(n':Nat)(ls':Addr)(xs':List Sx)(sts':List Addr)(k':Nat)(is:List Addr)(items:List zbq),σ=[some (.ref rd),some (.ref D)]/\RAt ad H' rd dx lt ls' ras all n' xs' sts'/\F1 H H' rd/\H' D=some (.lst (is.map V.ref))/\Paired (λa i=>Far ad H' rd D a i) is items/\ls'≠D ∧
   16*(all.drop n').length+16<=f/\(all.drop n').length<=k'/\is.length+(all.drop n').length<=10000 ∧
   (match pItems k' f (all.drop n') with
    |none=>zaw K ad.R E (-71) 0
    |some l=>∀H'' is',F1 H H'' rd->H'' D=some (.lst (is'.map V.ref))->Paired (λa i=>ItemAt ad H'' a i) is' (items++l)->Q (.ref D) H'')/\m=(all.drop n').length,⟨_,n,ls,xs,sts,k,[],[],rfl,R.toSame (zaj nD _),λb o h nb=>zaj nD _ _ _ h,zac,Paired.nil,zah R.st nD,hf,hk,by simp only[qf5];lia,?_,rfl⟩,?_⟩
  ·cases hp:pItems k f (all.drop n) with
   |none=>rw[hp]at q;exact q
   |some l=>
    rw[hp]at q
    dsimp only at q ⊢
    intro H2 is2 f2 e2 p2
    exact q H2 D is2 nD f2 e2 p2
  ·rintro m σ H2 ⟨n2,ls2,xs2,sts2,k2,is,items,rfl,R2,F2',e2,P2,hne,hf2,hk2,hx2,q2,rfl⟩
   have Drd:D≠rd:=zf9 e2 R2.ob (by intro z;cases z)
   refine⟨_,rfl,rd,dx,_,rfl,R2.ob,rfl,rd,dx,lt,ls2,ras,all,n2,xs2,sts2,rfl,R2,rfl,_,rfl,?_⟩
   rw[<-qco,zia]
   cases hd:all.drop n2 with
   |nil=>
    rw[decide_eq_true (show zb2 ([]:List zcv)=qcm from rfl)]
    rw[hd,zm5]at q2
    refine⟨_,rfl,?_⟩
    exact q2 H2 is F2' e2 (by rw[qgb];exact Paired.mapP P2 λ_ _ h=>by obtain⟨_,lp,li,_,_,x⟩:=h;exact x.at)
   |cons t r=>
    have hne2:all.drop n2≠[]:=by rw[hd];simp
    rw[<-hd,decide_eq_false (by rw[hd];exact zzh (R2.oks t (by rw[hd];simp)))]
    have lpos:1<=(all.drop n2).length:=by rw[hd];simp
    obtain⟨k2',rfl,hk2'⟩:=zfr (a:=(all.drop n2).length - 1) (by lia:(all.drop n2).length - 1+1<=k2)
    rw[zpi _ _ _ hne2]at q2
    refine⟨λσ' H'=>∃(n':Nat)(ls':Addr)(xs':List Sx)(sts':List Addr)(k':Nat)(is:List Addr)(items:List zbq),σ'=[some (.ref rd),some (.ref D)]/\RAt ad H' rd dx lt ls' ras all n' xs' sts'/\F1 H H' rd/\H' D=some (.lst (is.map V.ref))/\Paired (λa i=>Far ad H' rd D a i) is items/\ls'≠D ∧
     16*(all.drop n').length+16<=f/\(all.drop n').length<=k'/\is.length+(all.drop n').length<=10000 ∧
     (match pItems k' f (all.drop n') with
      |none=>zaw K ad.R E (-71) 0
      |some l=>∀H'' is',F1 H H'' rd->H'' D=some (.lst (is'.map V.ref))->Paired (λa i=>ItemAt ad H'' a i) is' (items++l)->Q (.ref D) H'')/\(all.drop n').length<(all.drop n2).length,
     λσ' H' ⟨n',ls',xs',sts',k',is,items,a1,a2,a3,a4,a5,a6,a7,a8,a9,a10,a11⟩=>⟨_,a11,n',ls',xs',sts',k',is,items,a1,a2,a3,a4,a5,a6,a7,a8,a9,a10,rfl⟩,?_⟩
    refine⟨_,rfl,.inl ⟨rfl,_,SqL.of e2⟩,_,rfl,rd,dx,_,rfl,R2.ob,rfl,rd,dx,lt,ls2,ras,all,n2,xs2,sts2,f,rfl,R2,hf2,?_⟩
    cases hp:pItem f (all.drop n2) with
    |none=>rw[hp]at q2;exact q2
    |some p=>
     rw[hp]at q2
     dsimp only at q2 ⊢
     intro H3 n3 ls3 xs3 sts3 a lp li R3 hd3 f3 na nlp nli nls IX
     have pf:=(zm6 R2.in1 hp).2.1
     have e3:=f3 _ _ e2 Drd
     refine⟨D,_,_,rfl,rfl,e3,by rw[qe9];exact zhc (by lia),?_⟩
     have ls3D:ls3≠D:=(zah e2 nls).symm
     have R4:=R3.side (l':=is.map V.ref++[.ref a]) e3 (zah R.tk nD) ls3D
     refine⟨n3,ls3,xs3,sts3,k2',is++[a],items++[p.1],rfl,R4,λb o h nb=>?_,by rw[zac,qfg];rfl,?_,ls3D,by rw[hd3];lia,by rw[hd3];lia,?_,?_,by rw[hd3];lia⟩
     ·rw[zai (zah h nD)]
      exact f3 _ _ (F2' _ _ h nb) nb
     ·refine zw4 (Paired.mapP P2 λ_ _ h=>(h.f1 f3 R2.ob).upd e3) (Far.upd ⟨(zah R2.ob na).symm,lp,li,(zah e2 nlp).symm,(zah e2 nli).symm,IX⟩ e3)
     ·rw[hd3,qfb]
      have:([a]:List Addr).length=1:=rfl
      lia
     ·rw[hd3]
      cases hl:pItems k2' f p.2 with
      |none=>rw[hl]at q2;exact q2
      |some l=>
       rw[hl]at q2
       dsimp only[qfy]at q2 ⊢
       intro H5 is5 f5 e5 p5
       exact q2 H5 is5 f5 e5 (by rw[qf7]at p5;exact p5)
theorem qa4(T:Txt K mg ad):Ok P w K mg base 238 "items_of" ["tokens"] (qdd K ad):=by
 have O1:=zxv (P:=P) (w:=w) (base:=base) T
 have O2:=qaw (P:=P) (w:=w) (base:=base) T
 refine T.f_items_of.ok T.M zvr (λvs H Q E h=>?_) (λf cdv A outer s0 H vs Q E hr h=>?_)
 ·obtain⟨b,rs,ts,rfl,_⟩:=h
  rfl
 ·obtain⟨b,rs,ts,rfl,hb,hP,hfine,hlen,q⟩:=h
  have h2:Room 2 _:=hr.mono (by lia)
  refine⟨_,zaf (zaq (cM0 O2 hr zab (cC O1 h2 zab (zaa (pv 0) zae)))),?_⟩
  have rl:rs.length=ts.length:=Paired.length hP
  refine⟨_,rfl,λrd dx nr ndx hne=>?_⟩
  have s0:Same H (upd (upd H dx (.own rd)) rd (.ins ad.Reader dx [])):=zay (zaj ndx _) nr _
  refine⟨rd,dx,b,rs,rfl,zac,s0 _ _ hb,by lia,λH1 lt ls pe nlt nls npe ltls e1 e2 e3 e4 f1=>⟨rfl,?_⟩⟩
  have s1:Same H H1:=λu v h=>f1 _ _ (s0 _ _ h) (zah h nr)
  have R:RAt ad H1 rd dx lt ls (rs++[pe]) ts 0 [] []:=⟨e1,e2,ltls,λj t h=>by
    obtain⟨a,h1,h2⟩:=qdt hP h
    exact⟨a,by rw[qjj (qfc.mp h1).1];exact h1,s1 _ _ h2⟩,⟨pe,by rw[qhb (by lia),rl];simp,e3⟩,e4,Paired.nil,qg2 _,hfine,hlen⟩
  unfold sheetOf at q
  refine⟨rd,dx,_,rfl,e1,rfl,rd,dx,lt,ls,_,ts,0,[],[],ts.length,16*ts.length+16,rfl,R,qfh _,qfh _,?_⟩
  rw[qhu]
  cases hp:pItems ts.length (16*ts.length+16) ts with
  |none=>rw[hp]at q;exact q
  |some l=>
   rw[hp]at q
   dsimp only at q ⊢
   intro H2 D is nD f2 e5 p5
   exact q H2 D is (λu v h=>f2 _ _ (s1 _ _ h) (zah h nr)) e5 p5
theorem qay(T:Txt K mg ad)(hK:K.In base)(hB:base.BuiltinsAt mg ad.pNP):Ok P w K mg base 239 "read_kinds" ["t"] (qc5 K ad):=by
 have O1:=zxg (P:=P) (w:=w) (base:=base) T
 have O2:=qa4 (P:=P) (w:=w) (base:=base) T
 have O3:=zxu (P:=P) (w:=w) (base:=base) T
 have O4:=qax (P:=P) (w:=w) (base:=base) T
 have O5:=qa3 (P:=P) (w:=w) T hK hB
 refine T.f_read_kinds.ok T.M c_read_kinds (λvs H Q E h=>?_) (λf cdv A outer s0 H vs Q E hr h=>?_)
 ·obtain⟨p,b,rfl,_⟩:=h
  rfl
 ·obtain⟨p,b,rfl,hp,ht,q⟩:=h
  have h7:Room 7 _:=hr.mono (by lia)
  have h4:Room 4 _:=hr.mono (by lia)
  have h9:Room 9 _:=hr.mono (by lia)
  refine⟨_,zad (zao (i:=1) c_read_kinds.nd rfl (Or.inl rfl) (cN O2 hr zab (zaa (cN O1 h7 zab (zaa (pv 0) zae)) zae)))
   (zad (zal (cN O3 h4 zab (zaa (pv 1) zae)))
   (zad (zal (cN O4 h4 zab (zaa (pv 1) zae)))
   (zaf (zaq (cN O5 h9 zab (zaa (pv 1) zae)))))),?_⟩
  refine⟨_,rfl,p,b,rfl,hp,?_⟩
  unfold zjl at q
  by_cases h8:8192<b.length
  ·rw[if_pos h8]at q ⊢
   exact q
  rw[if_neg h8]at q ⊢
  cases htk:Kp169.tokens b with
  |none=>rw[htk]at q;exact q
  |some ts=>
   rw[htk]at q
   dsimp only at q ⊢
   by_cases h2:2048<ts.length
   ·rw[if_pos h2]at q ⊢
    exact q
   rw[if_neg h2]at q ⊢
   intro a rs H1 na s1 e1 P1
   have tfine:∀t∈ts,zlr t:=by
    rw[zi5]at htk
    exact zk6 _ _ ts (qfh _) (by rw[qe9];lia) htk
   refine⟨a,rs,ts,rfl,e1,P1,tfine,by lia,?_⟩
   cases hsh:sheetOf ts with
   |none=>rw[hsh]at q;exact q
   |some l=>
    rw[hsh]at q
    dsimp only at q ⊢
    intro H2 D is s2 e2 P2
    have lf:=zks _ _ ts l ⟨tfine,by lia⟩ hsh
    unfold zke at q
    refine⟨_,rfl,D,is,l,rfl,e2,P2,?_⟩
    cases hc:zca 0 0 l with
    |some k=>rw[hc]at q;exact q
    |none=>
     rw[hc]at q
     dsimp only at q ⊢
     intro H3 s3
     have P3:=Paired.mapP P2 λ_ _ h=>ItemAt.same h s3
     refine⟨_,rfl,D,is,l,rfl,s3 _ _ e2,P3,by lia,λi hi=>⟨by have:=(lf.1 i hi).par;lia,by have:=(lf.1 i hi).len;lia⟩,?_⟩
     cases hrt:zce [] l with
     |some k=>rw[hrt]at q;exact q
     |none=>
      rw[hrt]at q
      dsimp only at q ⊢
      intro H4 s4
      have P4:=Paired.mapP P3 λ_ _ h=>ItemAt.same h s4
      refine⟨_,rfl,D,is,l,rfl,s4 _ _ (s3 _ _ e2),P4,hc,hrt,λi hi=>fineI (lf.1 i hi),((ht.same s1).same s2).same (s3.trans s4),?_⟩
      cases hk:zdt 0 [] 0 l with
      |inl x=>rw[hk]at q;exact q
      |inr known=>
       rw[hk]at q
       dsimp only at q ⊢
       intro b' as H5 st5 t5 e5 p5
       exact q b' as H5 e5 p5 t5
end
end U
namespace Mir
open Kp168 (Row nought ofPlace ofMark mul pow Filling itself filled nearest)
open Kp169
structure zol(q:Kind):Prop where
 ok:KOk q
 len:q.of.length<=6
 wi:q.with_=q.of.length
theorem zvc{known:Known}{ps:List Bytes}{l:List Sx}{q:Kind}(h:zga known ps l=.inr q):q.with_=q.of.length:=by
 unfold zga at h
 split at h
 ·cases h
 ·split at h
  ·cases h
  ·split at h
   ·cases h
   ·split at h
    ·cases h;simp[closed]
    ·cases h
theorem zpl{known:Known}{u:Nat}{i:Item}{q:Kind}(hk:∀q∈known,zol q.2)(hp:(params i).length<=6)(h:zcq known u i=.inr q):zol q:=by
 obtain⟨h1,h2⟩:=zii (λq hq=>(hk q hq).ok) hp h
 refine⟨h1,by lia,?_⟩
 unfold zcq at h
 split at h
 ·cases h;rfl
 ·exact zvc h
theorem zlb:∀(l:List Item)(known:Known)(k u:Nat)(q:Known),(∀x∈known,zol x.2)->(∀i∈l,(params i).length<=6)->zdt k known u l=.inr q->∀x∈q,zol x.2
 |[],known,k,u,q,hk,_,h=>by cases h;exact hk
 |i::l,known,k,u,q,hk,hp,h=>by
  rw[zdt]at h
  cases ho:zcq known u i with
  |inl v=>rw[ho]at h;cases h
  |inr z=>
   rw[ho]at h
   refine zlb l _ _ _ q (λx hx=>?_) (λj hj=>hp j (by simp[hj])) h
   rcases qfj.mp hx with hx|hx
   ·exact hk x hx
   ·rw[qfq.mp hx];exact zpl hk (hp i (by simp)) ho
theorem zq7{l:List Item}{q:Known}(h:zke l=.inr q):∀x∈q,zol x.2:=by
 unfold zke at h
 cases hc:zca 0 0 l with
 |some k=>rw[hc]at h;cases h
 |none=>
  rw[hc]at h
  dsimp only at h
  cases hr:zce [] l with
  |some k=>rw[hr]at h;cases h
  |none=>
   rw[hr]at h
   exact zlb l [] 0 0 q (λx hx=>by cases hx) (zdw l 0 0 hc).1 h
noncomputable def zzs(r:Row):List Int:=(8::r.mark)++(24::r.place)
noncomputable def qep(q:Kind):List Int:=[(q.of.length:Int),(q.places:Int),(q.of.length:Int)]++(q.of++[q.comes]).flatMap zzs
theorem zs9{r:Row}(h:WF r):(zzs r).length=34:=by
 unfold zzs;simp[h.m,h.p]
theorem zg5:∀(l:List Row),(∀x∈l,WF x)->(l.flatMap zzs).length=34*l.length
 |[],_=>rfl
 |r::l,h=>by
  rw[qiy,qfb,zs9 (h r (by simp)),zg5 l λx hx=>h x (by simp[hx]),qfd]
  lia
end Mir
namespace U
open PySem L2 Mir
open Kp168 (Row nought ofPlace ofMark mul pow Filling itself filled nearest)
open Kp169 (Bytes Known)
def spPN:Sp:=λvs H Q _=>∃(a:Addr)(r:Row),vs=[.ref a]/\zb5 H a r/\WF r/\zsg H Q (zzs r)
def spKN(ad:Ad):Sp:=λvs H Q _=>∃(a:Addr)(kd:zhb),vs=[.ref a]/\KindAt ad H a kd/\zol kd/\∀r H',Same H H'->LI H' r (qep kd)->Q (.ref r) H'
section
variable{P:Program}{w:World}{K:qfa}{mg:Str->Option Value}{base:Heap}{ad:Ad}
theorem zxw(T:Txt K mg ad):OkX0 P w K mg base ad.R 2 "NoItem" (-2):=by
 obtain⟨C,f,fd,M,hm,F,hb⟩:=T.x_NoItem
 obtain⟨g,gd,cm,gb,G⟩:=qe7 (P:=P) (w:=w) (base:=base) T
 refine⟨C,f,fd,M,hm,hb,F.okX zof (λvs H Q E h=>?_) (λcdv A outer s H vs Q E hr h=>?_)⟩
 ·obtain⟨e,rfl,_⟩:=h
  rfl
 ·obtain⟨e,rfl,he,q⟩:=h
  refine⟨_,zaf (zal (zif cm G hr rfl T.g_R gb (zc8 zab) (zaa (pv 0) (zaa (zrb zj9 zan) (zaa zan zae))))),?_⟩
  exact⟨_,rfl,_,rfl,C,e,-2,0,rfl,he,M.cl,λdx H' ne e1 e2=>q dx H' ne e1 e2⟩
theorem qd5(T:Txt K mg ad):Ok P w K mg base 2 "product_in_numbers" ["product"] spPN:=by
 have O1:=zhu (P:=P) (w:=w) (base:=base) T
 have O2:=zek (P:=P) (w:=w) (base:=base) T
 obtain⟨t1,hM⟩:=T.k_MARKS
 obtain⟨t2,hP⟩:=T.k_PLACES
 refine T.f_product_in_numbers.ok T.M zgb (λvs H Q E h=>?_) (λf cdv A outer s H vs Q E hr h=>?_)
 ·obtain⟨a,r,rfl,_⟩:=h
  rfl
 ·obtain⟨a,r,rfl,ha,wf,q⟩:=h
  refine⟨_,zaf (zaq (za8 zdr (za8 zdr (za8 zdr (zbm (zaa (zat (v:=.int 8) rfl hM ⟨_,rfl⟩) zae)) (cN O1 hr zab (zaa (pv 0) zae)))
   (zbm (zaa (zat (v:=.int 24) rfl hP ⟨_,rfl⟩) zae))) (cN O2 hr zab (zaa (pv 0) zae)))),?_⟩
  refine⟨(by show 1<=sizeLine;decide),λl1 n1=>?_⟩
  have s1:=zaj (o:=HO.lst [.int 8]) n1
  refine⟨_,rfl,a,za6 r,rfl,s1 _ _ ha,λr2 H2 n2 s2 e2=>?_⟩
  rw[zc4 wf]at e2
  refine⟨l1,r2,_,_,rfl,rfl,s2 _ _ zac,e2,?_,λl3 n3=>?_⟩
  ·rw[qe9,wf.m];exact big (by simp)
  have s3:=zaj (o:=HO.lst ([.int 8]++r.mark.map V.int)) n3
  refine⟨(by show 1<=sizeLine;decide),λl4 n4=>?_⟩
  have s4:=zaj (o:=HO.lst [.int 24]) n4
  refine⟨l3,l4,_,_,rfl,rfl,s4 _ _ zac,zac,?_,λl5 n5=>?_⟩
  ·rw[qfb,qe9,wf.m];exact big (by simp)
  have s5:=zaj (o:=HO.lst ([.int 8]++r.mark.map V.int++[.int 24])) n5
  have S5:=(s1.trans s2).trans (s3.trans (s4.trans s5))
  refine⟨_,rfl,a,za6 r,rfl,S5 _ _ ha,λr6 H6 n6 s6 e6=>?_⟩
  rw[zb9 wf]at e6
  refine⟨l5,r6,_,_,rfl,rfl,s6 _ _ zac,e6,?_,λl7 n7=>?_⟩
  ·rw[qfb,qfb,qe9,qe9,wf.m,wf.p];exact big (by simp)
  have S6:=S5.trans s6
  refine q l7 _ (S6.free n7) (S6.trans (zaj n7 _)) ?_
  show upd _ _ _ _=_
  rw[zac]
  unfold zzs
  simp
theorem qec(T:Txt K mg ad):Ok P w K mg base 3 "kind_in_numbers" ["kind"] (spKN ad):=by
 have O1:=qd5 (P:=P) (w:=w) (base:=base) T
 refine T.f_kind_in_numbers.ok T.M c_kind_in_numbers (λvs H Q E h=>?_) (λf cdv A outer s H vs Q E hr h=>?_)
 ·obtain⟨a,kd,rfl,_⟩:=h
  rfl
 ·obtain⟨a,kd,rfl,⟨dx,lo,c,ors,k1,k2,k3,k4⟩,g,q⟩:=h
  have olen:ors.length=kd.of.length:=by have:=k3.len;rw[qe9]at this;exact this
  refine⟨_,zad (zao (i:=1) c_kind_in_numbers.nd rfl (Or.inl rfl) (zbm (zaa (za0 za3 rfl T.z_len (by decide +kernel) (zaa (zgu K (pv 0) rfl) zae)) (zaa (zgu K (pv 0) rfl) (zaa (za0 za3 rfl T.z_len (by decide +kernel) (zaa (zgu K (pv 0) rfl) zae)) zae)))))
   (zad (zei zbk rfl (zby (za8 zdr (zgu K (pv 0) rfl) (zbm (zaa (zgu K (pv 0) rfl) zae)))) (zbg (i:=2) c_kind_in_numbers.nd rfl (Or.inl rfl))
    (zaf (zal (zhr qf1 PySem.F.slot_list_extend PySem.F.type_list_extend zx5 (pv 1) (zaa (cN O1 hr zab (zaa (pv 2) zae)) zae)))))
   (zaf (zaq (pv 1)))),?_⟩
  refine⟨_,rfl,a,ad.Kind,dx,_,_,rfl,k1,T.l_Kind,T.n_Kind_of,rfl,lo,_,rfl,.inl (SqL.of k2),_,rfl,a,ad.Kind,dx,_,_,rfl,k1,T.l_Kind,T.n_Kind_places,rfl,_,rfl,a,ad.Kind,dx,_,_,rfl,k1,T.l_Kind,T.n_Kind_of,rfl,lo,_,rfl,.inl (SqL.of k2),(by show 3<=sizeLine;decide),λl nl=>?_⟩
  have s1:=zaj (o:=HO.lst [V.int ((ors.map V.ref).length:Int),V.int kd.places,V.int ((ors.map V.ref).length:Int)]) nl
  refine⟨_,rfl,a,ad.Kind,dx,_,_,rfl,s1 _ _ k1,T.l_Kind,T.n_Kind_of,rfl,_,rfl,a,ad.Kind,dx,_,_,rfl,s1 _ _ k1,T.l_Kind,T.n_Kind_comes,rfl,(by show 1<=sizeLine;decide),λl2 nl2=>?_⟩
  have s2:=zaj (o:=HO.lst [V.ref c]) nl2
  refine⟨lo,l2,_,_,rfl,rfl,s2 _ _ (s1 _ _ k2),zac,?_,λl3 nl3=>?_⟩
  ·rw[qe9,olen];have:=g.len;exact big (by simp;lia)
  have s3:=zaj (o:=HO.lst (ors.map V.ref++[V.ref c])) nl3
  have S3:=s1.trans (s2.trans s3)
  have hR:Rows H (ors++[c]) ((kd.of++[kd.comes]).map za6):=by
   rw[qfg];exact Rows.push k3 k4
  have hw:∀x∈kd.of++[kd.comes],WF x:=λx hx=>by
   rcases qfj.mp hx with hx|hx
   ·exact g.ok.wo x hx
   ·rw[qfq.mp hx];exact g.ok.wc
  have hll:(kd.of++[kd.comes]).length<=7:=by have:=g.len;simp;lia
  have rlen:(ors++[c]).length=(kd.of++[kd.comes]).length:=by have:=hR.len;rw[qe9]at this;exact this
  have e3:upd (upd (upd H l (HO.lst [V.int ((ors.map V.ref).length:Int),V.int kd.places,V.int ((ors.map V.ref).length:Int)])) l2 (HO.lst [V.ref c])) l3 (HO.lst (ors.map V.ref++[V.ref c])) l3=some (.lst ((ors++[c]).map V.ref)):=by
   rw[zac,qfg];rfl
  have el:upd (upd (upd H l (HO.lst [V.int ((ors.map V.ref).length:Int),V.int kd.places,V.int ((ors.map V.ref).length:Int)])) l2 (HO.lst [V.ref c])) l3 (HO.lst (ors.map V.ref++[V.ref c])) l=some (.lst ([(kd.of.length:Int),(kd.places:Int),(kd.of.length:Int)].map V.int)):=by
   refine (s2.trans s3) _ _ ?_
   rw[zac,qe9,olen];rfl
  have nl3':l3≠l:=(zah ((s2 _ _ zac:_=some (HO.lst _))) nl3).symm
  generalize upd (upd (upd H l (HO.lst [V.int ((ors.map V.ref).length:Int),V.int kd.places,V.int ((ors.map V.ref).length:Int)])) l2 (HO.lst [V.ref c])) l3 (HO.lst (ors.map V.ref++[V.ref c]))=H3 at *
  refine⟨l3,rfl,⟨_,SqL.of e3⟩,zex (xs:=(ors++[c]).map V.ref) (λi σ H'=>∃(v2:Option V),σ=[some (.ref a),some (.ref l),v2]/\F1 H3 H' l/\LI H' l ([(kd.of.length:Int),(kd.places:Int),(kd.of.length:Int)]++((kd.of++[kd.comes]).take i).flatMap zzs)) ?_ ?_ ?_ ?_⟩
  ·exact⟨none,rfl,λb o h _=>h,el⟩
  ·rintro i σ H' _ ⟨v2,_,f1,_⟩
   exact SqL.of (f1 _ _ e3 nl3')
  ·rintro i x σ H' hx ⟨v2,rfl,f1,e1⟩
   rw[qfe]at hx
   obtain⟨y,hy,rfl⟩:=qff.mp hx
   obtain⟨r,hrow,ey⟩:=hR.row hy
   have wr:=hw r (qfw hrow)
   have hi:=(qfc.mp hrow).1
   refine⟨_,rfl,.inl ⟨rfl,_,SqL.of e1⟩,_,rfl,y,r,rfl,f1 _ _ (S3 _ _ ey) (zah ey nl),wr,λr7 H7 n7 s7 e7=>?_⟩
   refine⟨l,r7,_,_,rfl,rfl,s7 _ _ e1,e7,?_,?_⟩
   ·rw[qe9,qe9,zs9 wr,qfb,zg5 _ λx hx=>hw x (qg4 hx),qfx]
    exact big (by simp;lia)
   refine⟨_,rfl,λb o h n=>?_,?_⟩
   ·rw[zai n];exact s7 _ _ (f1 _ _ h n)
   ·show upd _ _ _ _=_
    rw[zac,<-qfg,qgi (l:=kd.of++[kd.comes]) (i:=i),hrow,qgz,qkl,<-qf7]
    simp[List.flatMap]
  ·rintro σ H' ⟨v2,rfl,f1,e1⟩
   refine⟨_,rfl,q l H' (λb o h=>f1 _ _ (S3 _ _ h) (zah h nl)) ?_⟩
   rw[qe9,rlen,qgr]at e1
   exact e1
end
end U
namespace L2
open PySem
theorem qan{X:Cx}(K:qfa){e:Expr}{f:Str}{pos:Pos}{ta:TE}(he:PE X e ta)(hb:attributeBase e f X.env (eval e X.env)=eval e X.env)(hK:X.K=K:=by rfl):PE X (.Attribute e f pos) (tXFld K ta f):=by
 subst hK
 exact qdv he hb
end L2
namespace U
open PySem L2 Mir
open Kp169 (Bytes Known)
theorem zmx{b:Bytes}{q:Known}(h:zjl b=.inr q):∀x∈q,zol x.2:=by
 unfold zjl at h
 split at h
 ·cases h
 ·split at h
  ·cases h
  ·split at h
   ·cases h
   ·split at h
    ·cases h
    ·exact zq7 h
def qac(K:qfa)(ad:Ad):Sp:=λvs H Q E=>∃(k:Nat)(p:Addr)(b:Bytes),vs=[.int k,.ref p]/\SqL K H p ((zn1 b).map V.int)/\TOk ad H ∧
 match zjl b with
 |.inl x=>zaw K ad.R E x.1 x.2
 |.inr known=>match known[k]? with
  |none=>zaw K ad.R E (-2) 0
  |some q=>∀(a:Addr)(H':Hp),KindAt ad H' a q.2->Q (.ref a) H'
noncomputable def zc3(k:Nat)(b:Bytes):List Int:=match zjl b with
 |.inl x=>[0,x.1]
 |.inr known=>match known[k]? with
  |none=>[0,-2]
  |some q=>2::qep q.2
def zsy(K:qfa)(ad:Ad):Sp:=λvs H Q E=>∃(k:Nat)(p:Addr)(b:Bytes),vs=[.int k,.ref p]/\SqL K H p ((zn1 b).map V.int)/\TOk ad H/\∀r H',H' r=some (.lst ((zc3 k b).map V.int))->Q (.ref r) H'
theorem qbj{q:zhb}(g:zol q):(qep q).length<=300:=by
 unfold qep
 rw[qfb,zg5 _ λx hx=>?_]
 ·have:=g.len;simp;lia
 ·rcases qfj.mp hx with hx|hx
  ·exact g.ok.wo x hx
  ·rw[qfq.mp hx];exact g.ok.wc
theorem KindAt.same2{ad:Ad}{H H':Hp}{a:Addr}{q:zhb}(h:KindAt ad H a q)(s:Same H H'):KindAt ad H' a q:=by
 obtain⟨dx,lo,c,ors,k1,k2,k3,k4⟩:=h
 exact⟨dx,lo,c,ors,s _ _ k1,s _ _ k2,k3.same s,s _ _ k4⟩
section
variable{P:Program}{w:World}{K:qfa}{mg:Str->Option Value}{base:Heap}{ad:Ad}
theorem zxr(T:Txt K mg ad)(hK:K.In base)(hB:base.BuiltinsAt mg ad.pNP):Ok P w K mg base 240 "kind_at" ["k","t"] (qac K ad):=by
 have O1:=qay (P:=P) (w:=w) T hK hB
 have X1:=zxw (P:=P) (w:=w) (base:=base) T
 refine T.f_kind_at.ok T.M c_kind_at (λvs H Q E h=>?_) (λf cdv A outer s0 H vs Q E hr h=>?_)
 ·obtain⟨k,p,b,rfl,_⟩:=h
  rfl
 ·obtain⟨k,p,b,rfl,hp,ht,q⟩:=h
  have h3:Room 3 _:=hr.mono (by decide)
  refine⟨_,zad (zao (i:=2) c_kind_at.nd rfl (Or.inl rfl) (cN O1 hr zab (zaa (pv 1) zae)))
   (zad (za9 (zar qdz (pv 0) (za0 za3 rfl T.z_len (by decide +kernel) (zaa (pv 2) zae)) (zaz _)) (zaf (zjc X1 h3 zab)) zav)
   (zaf (zaq (zdp zew (pv 2) (pv 0) (λ_ _=>rfl))))),?_⟩
  refine⟨_,rfl,p,b,rfl,hp,ht,?_⟩
  cases hr':zjl b with
  |inl x=>
   rw[hr']at q
   exact q
  |inr known=>
   rw[hr']at q
   dsimp only at q ⊢
   intro b' as H1 e1 P1 t1
   have la:as.length=known.length:=Paired.length P1
   refine⟨_,rfl,_,rfl,b',_,rfl,.inl (SqL.of e1),_,_,rfl,rfl,?_⟩
   rw[qe9,la]
   refine⟨_,rfl,?_⟩
   show if decide ((known.length:Int)<=(k:Int))=true then _ else _
   by_cases hlt:k<known.length
   ·rw[show decide ((known.length:Int)<=(k:Int))=false from decide_eq_false (by lia)]
    cases hk:known[k]? with
    |none=>rw[qjk]at hk;lia
    |some z=>
     rw[hk]at q
     obtain⟨a,ha,hA⟩:=qdt P1 hk
     refine⟨_,rfl,_,rfl,b',_,_,_,rfl,rfl,SqL.of e1,zez (by rw[qfe,ha];rfl),?_⟩
     exact q a H1 hA
   ·rw[show decide ((known.length:Int)<=(k:Int))=true from decide_eq_true (by lia)]
    rw[qjk.mpr (by lia)]at q
    exact q
theorem zxf(T:Txt K mg ad)(hK:K.In base)(hB:base.BuiltinsAt mg ad.pNP):Ok P w K mg base 241 "un_kind_of" ["k","t"] (zsy K ad):=by
 have O1:=zxr (P:=P) (w:=w) T hK hB
 have O2:=qec (P:=P) (w:=w) (base:=base) T
 refine T.f_un_kind_of.ok T.M c_un_kind_of (λvs H Q E h=>?_) (λf cdv A outer s0 H vs Q E hr h=>?_)
 ·obtain⟨k,p,b,rfl,_⟩:=h
  rfl
 ·obtain⟨k,p,b,rfl,hp,ht,q⟩:=h
  have h3:Room 3 _:=hr.mono (by decide)
  refine⟨_,zad (ps_try (E:=λv odx H'=>∃(C dx:Addr)(n:Int)(m:Nat),v=.ref C/\odx=some dx/\zvv K C ad.R/\H' dx=some (xdo dx (xf n m))/\zc3 k b=[0,n]) (i:=3) rfl rfl T.rc rfl T.g_R c_un_kind_of.nd rfl rfl
    (λpn E' th=>zaf (zao (i:=2) c_un_kind_of.nd rfl (Or.inl rfl) (cN O1 hr th (zaa (pv 0) (zaa (pv 1) zae)))))
    (λe=>zaf (zaq (zbm (zaa zan (zaa (qan K (pv 3) rfl) zae))))))
   (zaf (zaq (za8 zdr (zbm (zaa zan zae)) (cN O2 h3 zab (zaa (pv 2) zae))))),?_⟩
  refine⟨?_,λe C dx σ' H' hl hE he=>?_⟩
  ·refine⟨_,rfl,_,rfl,k,p,b,rfl,hp,ht,?_⟩
   unfold zc3 at q ⊢
   cases hr':zjl b with
   |inl x=>
    dsimp only
    intro C dx H1 xc hd
    exact⟨C,dx,x.1,x.2,rfl,rfl,xc,hd,rfl⟩
   |inr known=>
    rw[hr']at q
    dsimp only at q ⊢
    cases hk:known[k]? with
    |none=>
     dsimp only
     intro C dx H1 xc hd
     exact⟨C,dx,-2,0,rfl,rfl,xc,hd,rfl⟩
    |some z=>
     rw[hk]at q
     dsimp only at q ⊢
     intro a H1 hA
     have kg:=zmx hr' z (qfw hk)
     refine⟨(by show 1<=sizeLine;decide),λl nl=>?_⟩
     have s1:=zaj (o:=HO.lst [V.int 2]) nl
     refine⟨_,rfl,a,z.2,rfl,hA.same2 s1,kg,λr H2 s2 e2=>?_⟩
     refine⟨l,r,_,_,rfl,rfl,s2 _ _ zac,e2,?_,λr3 n3=>?_⟩
     ·rw[qe9];have:=qbj kg;exact big (by simp;lia)
     exact q r3 _ zac
  ·obtain⟨C',dx',n,m,h1,h2,xc,hd,hrd⟩:=hE
   cases h1
   cases h2
   rw[hrd]at q
   have hdx:dx≠e:=zah hd he
   have h2v:(σ'.set 3 (some (V.ref e)))[3]?=some (some (V.ref e)):=by
    have:3<σ'.length:=by rw[hl];show 3<4;decide
    simp[this]
   refine⟨xc,?_⟩
   refine⟨_,h2v,e,C,ad.R,dx,_,_,rfl,zac,by rw[zai hdx];exact hd,xc,xc.nn,rfl,(by show 2<=sizeLine;decide),λr nr=>?_⟩
   exact q r _ zac
end
end U
namespace L2
open PySem PySem.Spec PyProof.Rows L3
def Back(out:List Int):VK:=λv H'=>∃r,v=.ref r/\H' r=some (.lst (out.map V.int))
theorem head_call{P:Program}{w:World}{K:qfa}{mg mb:Str->Option Value}{k:Nat}{fa a P0 c0:Addr}{x:Str}{ps:List Str}{sp:Sp}{s₁:Shared}{its us:List Value}{vs:List V}{ns out:List Int}(KX:K.In s₁.heap)(hns:s₁.heap.Ns mainGlobals mg)(hb:s₁.heap.Ns builtinsNs mb)(hbb:∀x:Str,x≠"__name__"->mb x=bootBuiltins x)(hlim:s₁.heap.NoLimit)(hg:s₁.gens=#[])(ha:s₁.heap.get? a=some { cls:=.type "list",data:=.seq its.toArray })(hi:IntsAre its ns)(hl:ns.length<=sizeLine)(hr:Room k callerA)(hP:s₁.heap.get? P0=some { cls:=.none,data:=.fields #[] })(hC:PySem.W.CodeHd s₁.heap c0 P0)(hKP:K.lookup P0=none)(hBA:s₁.heap.BuiltinsAt mg P0)(hmg:mg x=some (.ref fa))(hlen:us.length=ps.length)(rvs:Vals vs us)(O:∀base:Heap,K.In base->base.BuiltinsAt mg P0->Ok P w K mg base k x ps sp)(hsp:∀H:Hp,SqL K H a (ns.map V.int)->H P0=some (.tbl #[])->sp vs H (Back out) λ_ _ _=>False) :
  codeAny (model P w) callerA (.call (.ref fa) ⟨us,[]⟩) (λr s'=>(∃(u:Addr)(rs:List Value)(n:Nat),r=.ok (.ret (.ref u))/\Vals (out.map V.int) rs/\s'.heap.get? u=some { cls:=.type "list",data:=.seq rs.toArray n })/\OldK s₁.heap s'.heap/\s'.os=s₁.os/\AllBare s'.gens) s₁:=by
 have rv:=zor hi
 have lenV:=hi.length
 have aP:a≠P0:=λz=>by subst z;rw[ha]at hP;cases hP
 have core:∀H:Hp,(∀b,b≠P0->H b=none\/∃o xs,H b=some (.frz o (.lst xs)))->H P0=some (.tbl #[])->SqL K H a (ns.map V.int)->HOk P w H s₁.heap->(∀b,H b≠none->b=a\/b=P0)->(H a≠none->K.lookup a=none) ->
   codeAny (model P w) callerA (.call (.ref fa) ⟨us,[]⟩) (λr s'=>(∃(u:Addr)(rs:List Value)(n:Nat),r=.ok (.ret (.ref u))/\Vals (out.map V.int) rs/\s'.heap.get? u=some { cls:=.type "list",data:=.seq rs.toArray n })/\OldK s₁.heap s'.heap/\s'.os=s₁.os/\AllBare s'.gens) s₁:=by
  intro H hO hT hS hok hA hK
  have base_of:∀{b:Addr}{o:Obj},s₁.heap.get? b=some o->H b=none->(zzt s₁.heap H).get? b=some o:=λe n=>qbo e n
  have noA:∀{b:Addr}{o:Obj},s₁.heap.get? b=some o->(∀v n,o.data≠.seq v n)->(∀v,o.data≠.fields v)->H b=none:=λ{b o} e d1 d2=>by
   cases q:H b with
   |none=>rfl
   |some u=>
    rcases hA b (by rw[q];simp) with e'|e'
    ·subst e'
     rw[ha]at e;cases e
     exact absurd rfl (d1 _ _)
    ·subst e'
     rw[hP]at e;cases e
     exact absurd rfl (d2 _)
  have nsK:∀{b:Addr}{m:Str->Option Value},s₁.heap.Ns b m->(zzt s₁.heap H).Ns b m:=λ{b m} ⟨o,es,ep,e,d,r⟩=>⟨o,es,ep,base_of e (noA e (λv n z=>by rw[d]at z;cases z) (λv z=>by rw[d]at z;cases z)),d,r⟩
  have hKb:K.In (zzt s₁.heap H):=λb o e=>base_of (KX b o e) (by
   cases q:H b with
   |none=>rfl
   |some u=>
    rcases hA b (by rw[q];simp) with e'|e'
    ·subst e'
     rw[hK (by rw[q];simp)]at e;cases e
    ·subst e'
     rw[hKP]at e;cases e)
  have hBb:(zzt s₁.heap H).BuiltinsAt mg P0:=by
   obtain⟨bm,o,b1,b2,b3,b4,b5,b6,b7,b8⟩:=hBA
   exact⟨bm,o,b1,b2,b3,b4,base_of b5 (noA b5 (λv n z=>by rw[b8]at z;cases z) (λv z=>by rw[b8]at z;cases z)),b6,b7,b8⟩
  have hM:Mod K mg (zzt s₁.heap H):=⟨hKb,nsK hns,⟨mb,nsK hb,hbb⟩,let ⟨mc,h1,h2⟩:=hlim;⟨mc,nsK h1,h2⟩⟩
  have e0:Env0 P w K mg (zzt s₁.heap H) callerA [] s₁ H:=⟨rfl,hM,λb o e=>qej e,qh2 (zyp _ _),trivial,λb hb=>absurd (show b∈([]:List Addr) from hb) (by simp),hok,.of_eq hg⟩
  obtain⟨f',fd',hm',hk',hb',F⟩:=O _ hKb hBb
  rw[hmg]at hm'
  cases hm'
  have bnd:=hb' s₁ us KX (by rw[qgb];exact hlen)
  rw[qgb]at bnd
  refine codeAny_mono (F.run callerA [] s₁ H ⟨us,[]⟩ us vs _ _ hr e0 bnd rvs (hsp H hS hT)) λr s' h=>?_
  cases r with
  |error e=>
   obtain⟨e',C,dx,T,H',_,_,_,_,_,_,z⟩:=h
   exact z.2.2.elim
  |ok fl=>
   cases fl with
   |next=>exact False.elim h
   |brk=>exact False.elim h
   |cont=>exact False.elim h
   |ret u=>
    obtain⟨v,H',os,bare,un,hok',r',q⟩:=h
    obtain⟨rr,rfl,hrr⟩:=q
    obtain rfl:u=Value.ref rr:=r'
    obtain⟨_,rs,n,hvs,hob⟩:=hok' rr _ hrr
    refine⟨⟨rr,rs,n,rfl,hvs,hob⟩,⟨λb o e=>?_,λb o e=>?_⟩,os,bare⟩
    ·by_cases hb0:b=P0
     ·subst hb0
      obtain⟨more,e1⟩:=un.tbls _ _ hT
      have e2:=hok' _ _ e1
      rw[hP]at e;cases e
      obtain⟨oc,vs',file,tf,flags,tg,inF,text,tt,g1,g2,g3,g4,_⟩:=hC
      exact .inr (.inl ⟨⟨c0,oc,vs',g1,g2,g3,g4⟩,rfl,#[],more,rfl,e2⟩)
     ·refine .inl ?_
      cases q:H b with
      |none=>exact un.keep b o e q (by intro z;exact absurd (show b∈([]:List Addr) from z) (by simp)) (by simp)
      |some u=>
       rcases hO b hb0 with z|⟨ob,xs,z⟩
       ·rw[q]at z;cases z
       ·have z2:=un.frzs b ob _ z
        obtain⟨e1,_⟩:=hok b _ z
        obtain⟨e2,_⟩:=hok' b _ z2
        rw[e]at e1;cases e1
        exact e2
    ·exact un.there b o e (by simp)
 cases hk:K.lookup a with
 |some o=>
  have e:=KX a o hk
  rw[ha]at e
  cases e
  refine core (λb=>if b=P0 then some (.tbl #[]) else none) (λb hb=>.inl (if_neg hb)) (if_pos rfl) (.inr ⟨_,its.toArray,_,hk,rfl,rfl,rfl,by rw[qfr,lenV];exact hl,by simpa using rv⟩) (λb u z=>?_) (λb z=>?_) λz=>absurd (if_neg aP) z
  ·by_cases hb:b=P0
   ·have z':=(if_pos hb).symm.trans z
    cases z'
    subst hb
    exact hP
   ·have z':=(if_neg hb).symm.trans z
    cases z'
  ·by_cases hb:b=P0
   ·exact .inr hb
   ·exact absurd (if_neg hb) z
 |none=>
  refine core (λb=>if b=P0 then some (.tbl #[]) else if b=a then some (.frz { cls:=.type "list",data:=.seq its.toArray } (.lst (ns.map V.int))) else none) (λb hb=>?_) (if_pos rfl) (.inl (.inr ⟨{ cls:=.type "list",data:=.seq its.toArray },(if_neg aP).trans (if_pos rfl)⟩)) (λb u z=>?_) (λb z=>?_) λ_=>hk
  ·rw[if_neg hb]
   by_cases hba:b=a
   ·exact .inr ⟨_,_,if_pos hba⟩
   ·exact .inl (if_neg hba)
  ·by_cases hb:b=P0
   ·have z':=(if_pos hb).symm.trans z
    cases z'
    subst hb
    exact hP
   ·have z1:=(if_neg hb).symm.trans z
    by_cases hba:b=a
    ·have z':=(if_pos hba).symm.trans z1
     cases z'
     subst hba
     exact⟨ha,by rw[qe9];exact hl,its,_,rv,ha⟩
    ·have z':=(if_neg hba).symm.trans z1
     cases z'
  ·by_cases hb:b=P0
   ·exact .inr hb
   ·by_cases hba:b=a
    ·exact .inl hba
    ·exact absurd ((if_neg hb).trans (if_neg hba)) z
end L2
namespace U
open PySem L2 Mir PySem.W PyProof.Rows
open Kp169 (Bytes Known)
theorem zus{b:Bytes}(h:¬8192<b.length):(match Kp169.read b with|.inl x=>.inl x|.inr y=>.inr y.2)=zjl b:=by
 unfold zjl
 rw[if_neg h,qdn]
 cases Kp169.tokens b with
 |none=>rfl
 |some ts=>
  dsimp only
  by_cases h2:2048<ts.length
  ·rw[if_pos h2,if_pos h2]
  ·rw[if_neg h2,if_neg h2]
   cases Kp169.sheetOf ts with
   |none=>rfl
   |some l=>
    dsimp only
    cases zke l <;> rfl
theorem zx2{ns:List Int}(h:∀z∈ns,0<=z):zn1 (ns.map qif)=ns:=by
 show (ns.map qif).map (λ(n:Nat)=>(n:Int))=ns
 rw[qi5]
 conv=>rhs;rw[<-List.map_id ns]
 refine qg0 λz hz=>?_
 have:=h z hz
 simp;lia
theorem sp_tab{ad:Ad}{H:Hp}(h:H ad.pNP=some (.tbl #[])):TOk ad H:=⟨#[],h,trivial,.inl rfl⟩
theorem qba{K:Frag}{mg mb:Str->Option Value}{ad:Ad}{q:Program}{loose:List Str}{mean:ExcName->Option Value}{h:Heap}(T:Txt K mg ad)(TP:Top q loose mean mg mb h)(KX:K.In h)(hm:((recsOf q).any λe=>e.name == "nearest_place")=true) :
  h.get? ad.pNP=some { cls:=.none,data:=.fields #[] }/\CodeHd h ad.cNP ad.pNP:=by
 obtain⟨d,hd,hn⟩:=List.any_eq_true.mp hm
 have hn:d.name=("nearest_place":Str):=beq_iff_eq.mp hn
 obtain⟨a,o,fd,c',P',h1,h2,h3,h4,h5,h6⟩:=TP.tab d hd
 obtain⟨f,oc,od,kV,doc,pm,an,ct,osl,e1,e2,_,_,_,e3⟩:=T.c_np
 have g1:=T.M.m _ _ e1
 rw[hn,g1]at h1
 cases h1
 have g2:=KX _ _ e2
 rw[h2]at g2
 cases g2
 cases h3
 cases h4
 have C:=e3 h KX
 refine⟨?_,C⟩
 obtain⟨o',vs,file,tf,flags,tg,inF,text,tt,c1,c2,c3,c4,_⟩:=C
 obtain⟨⟨oc',vs',d1,d2,d3,d4⟩,d5⟩:=h6
 rw[c1]at d1
 cases d1
 rw[c3]at d3
 cases d3
 rw[c4]at d4
 cases d4
 exact d5
theorem zrl{mg mb:Str->Option Value}{q:Program}{loose:List Str}{mean:ExcName->Option Value}{h:Heap}{P0:Addr}(TP:Top q loose mean mg mb h)(hP:h.get? P0=some { cls:=.none,data:=.fields #[] }):h.BuiltinsAt mg P0:=by
 obtain⟨bm,ob,b1,b2,b3,b4,b5,b6⟩:=TP.bmain
 refine⟨bm,ob,b1,b2,λz=>?_,λz=>?_,b3,b4,b5,b6⟩
 ·obtain⟨o,es,ep,e,hd,_⟩:=TP.g
  rw[z,e]at b3;cases b3;rw[hd]at b6;cases b6
 ·rw[z,hP]at b3;cases b3;cases b4
theorem zmw{cl:Str->Option Addr}{h:Heap}:∀{out:List Int}{rs:List Value},Vals (out.map V.int) rs->ReadsAllW [] cl h rs (out.map WData.int) []
 |[],rs,r=>by
  rw[qio]at r
  cases r
  exact .nil
 |i::out,rs,r=>by
  rw[qge]at r
  cases r with
  |cons r1 r2=>
   obtain⟨t,rfl⟩:=r1
   exact ReadsAllW.cons (as:=[]) (bs:=[]) (.int i t) (zmw r2)
open Kp168 (Row)
theorem zqx:∀l:List Int,l.flatMap Kp169Neutral.wrInt=l
 |[]=>rfl
 |i::l=>by rw[qiy,zqx l];rfl
theorem qb1{r:Row}(h:WF r):Kp169Neutral.wrKp168_Row r=zzs r:=by
 unfold Kp169Neutral.wrKp168_Row Kp169Neutral.wrList zzs
 rw[h.m,h.p,zqx,zqx]
 rfl
theorem zv4:∀l:List Row,(∀x∈l,WF x)->l.flatMap Kp169Neutral.wrKp168_Row=l.flatMap zzs
 |[],_=>rfl
 |r::l,h=>by rw[qiy,qiy,qb1 (h r (by simp)),zv4 l λx hx=>h x (by simp[hx])]
theorem qct{q:zhb}(g:zol q):Kp169Neutral.wrKp169_Kind q=qep q:=by
 unfold Kp169Neutral.wrKp169_Kind qep Kp169Neutral.wrList
 rw[qb1 g.ok.wc,zv4 _ g.ok.wo,g.wi,qkl]
 simp[Kp169Neutral.wrNat]
theorem qas{k:Int}(ns:List Int):PyKp169.un_kind_of k ns=zc3 k.toNat (ns.map qif):=by
 show Kp169Neutral.wrKp169_Ans (Kp169.answer (.kindOf (if ns.length<=8192 then some (ns.map qif) else none) k.toNat))=_
 by_cases h:ns.length<=8192
 ·rw[if_pos h]
  have hb:¬8192<(ns.map qif).length:=by rw[qe9];lia
  have e:=zus hb
  have hg:=λq (hq:zjl (ns.map qif)=.inr q)=>zmx hq
  unfold zc3
  rw[<-e]at hg ⊢
  show Kp169Neutral.wrKp169_Ans (match Kp169.read (ns.map qif) with|.inl x=>.num x.1|.inr x=>match x.2[k.toNat]? with|none=>.num (-2)|some q=>.kind q.2)=_
  cases hr:Kp169.read (ns.map qif) with
  |inl x=>rfl
  |inr y=>
   rw[hr]at hg
   obtain⟨l,q⟩:=y
   dsimp only
   cases hk:q[k.toNat]? with
   |none=>rfl
   |some z=>
    show 2::Kp169Neutral.wrKp169_Kind z.2=2::qep z.2
    rw[qct (hg q rfl z (qfw hk))]
 ·rw[if_neg h]
  unfold zc3 zjl
  rw[if_pos (by rw[qe9];lia)]
  rfl
theorem walk_s02{q:Program}{loose:List Str}{XP:(Str->Option Value)->Heap->Prop}{YP:World->Heap->Prop}{d:DefRec}{K:Params->Frag}(hdn:d.name=("un_kind_of":Str))(hm:((recsOf q).any λe=>e.name == "nearest_place")=true)(hY:∀(w:World) (h:Heap),YP w h->(K w.params).In h)(F:∀(w:World) (mg:Str->Option Value) (h:Heap),(K w.params).In h->h.Ns mainGlobals mg->∃ad,Txt (K w.params) mg ad/\(K w.params).lookup ad.pNP=none) :
  WalkOS q loose XP YP PySem.Challenge.rw_sheetunits_s02_un_kind_of d [] (λf vs=>PySem.call f vs):=by
 intro w s₀ s₁ mg mb G Y fa o pm cd doc dV kV ho hd hcd hD hmg hg args vals as hpre hlay hrd hwl hlo
 have KX:=hY w _ Y
 obtain⟨ad,T,hKP⟩:=F w mg _ KX G.T.g
 obtain⟨hP,hC⟩:=qba T G.T KX hm
 rw[hdn]at hmg
 have hpre':=hpre
 unfold OpenSpec.pre at hpre'
 cases ea:Codec.decAll PySem.Challenge.rw_sheetunits_s02_un_kind_of.args args with
 |none=>rw[ea]at hpre';cases hpre'
 |some av=>
  obtain⟨e1,e2⟩:=Codec.encAll_of_decAll _ _ _ ea
  obtain⟨k,ns,un⟩:=av
  have e1:args=[.int k,.list (ns.map WData.int)]:=e1
  have e2:(Codec.inInt (qkw 0) (qkw 4294967295) k && (Codec.inList 0 8300 (Codec.inInt (qkw 0) (qkw 255)) ns && true))=true:=e2
  rw[qjr]at e2
  have e6:=Codec.and_of e2
  have e3:=Codec.and_of e6.2
  have e4:=Codec.inNat_iff.mp e3.1
  have e5:∀z∈ns,0<=z:=λz hz=>(Codec.inInt_iff.mp (qfm.mp e3.2 z hz)).1
  have e7:0<=k:=(Codec.inInt_iff.mp e6.1).1
  subst e1
  cases hwl with
  |cons w1 w2=>
   cases w1 with
   |int _ tk=>
   cases w2 with
   |cons w2 w3=>
   cases w3
   cases w2 with
   |list hobj hall=>
    have hints:=Att.ints_of_wellAll ns _ hall
    have hlen:ns.length<=8300:=e4.2
    refine PySem.W.enter_call (codeAny_mono (L2.head_call (out:=zc3 k.toNat (ns.map qif)) (sp:=zsy (K w.params) ad) (ps:=["k","t"]) (vs:=[.int k,.ref _]) (k:=241) KX G.T.g G.T.b G.T.builtins G.T.nolimit hg hobj hints (L2.big (by lia)) ⟨rfl,by decide,by decide⟩ hP hC hKP (zrl G.T hP) hmg rfl (.cons ⟨_,rfl⟩ (.cons rfl .nil))
     (λbase kb bb=>zxf T kb bb) (λH hS hT=>⟨k.toNat,_,ns.map qif,by rw[Int.toNat_of_nonneg e7],by rw[zx2 e5];exact hS,sp_tab hT,λr H' e=>⟨r,rfl,e⟩⟩)) λr s' hq=>?_)
    obtain⟨⟨u,rs,n,rfl,hvs,hob⟩,h2,h3,h4⟩:=hq
    refine⟨.inl ⟨.ref u,.list ((zc3 k.toNat (ns.map qif)).map WData.int),_,rfl,λ_=>rfl,ReadsW.list hob rfl rfl (by show ReadsAllW [] _ _ _ _ _;exact zmw hvs),?_,λz=>by cases z⟩,h2,h3,h4⟩
    show OpenSpec.post PySem.Challenge.rw_sheetunits_s02_un_kind_of _ _=true
    unfold OpenSpec.post
    rw[ea]
    refine same_iff.mpr ?_
    show _=WData.list ((PyKp169.un_kind_of k ns).map WData.int)
    rw[qas]
end U
open PySem PySem.W PyProof.Rows L2 U
namespace U
theorem ad_mk{K:qfa}{mg:Str->Option Value}{a0 a1 a2 a3 a4 a5 a6 a7:Addr}(h:Txt K mg ⟨a0,a1,a2,a3,a4,a5,a6,a7⟩)(o:K.lookup a7=none):∃ad,Txt K mg ad/\K.lookup ad.pNP=none:=⟨_,h,o⟩
end U
structure PySem.W.Fast:Prop where
 (tw15366861570526930407 tw6690420272730517999 tw2750837102062416281 tw1946002091405313773 tw1237589725558146070 tw17291509687765138224 tw2510193100107525400 tw3437355556269351417 tw523098010072214380 tw11628954106164118374 tw6088551951593844896 tw15893229657999642442 tw14313483298190918148 tw15197113556902540955 tw11448390325429652191 tw13135526197699555286 tw7650502920474026615 tw7575778174506418176 tw2788424806224965513 tw2762229503550639683 tw11209028281708963236 tw9310888013306243333 tw11238600992631379740 tw7129119398249570096 tw3811461311698118903 tw11270888849868363208 tw10887342574864105743 tw5086568932296882845 tw4348115232507029424 tw14657795771000212440 tw17476361797743154198 tw4098616914354433577 tw15746390319084095396 tw3415899049565569189 tw1850665692833073127 tw15198165633347601582 tw3240528580869471883 tw3747972156704369238 tw4712731380626335020 tw9281385502784991090 tw18194632625848251413 tw1309759757722723384 tw9711270704760014332 tw10687057106166538321 tw1791508029268871254 tw8840260933124988750 tw7302136303482445108 tw3087018195651302837 tw14058239360773875325 tw8267658924957461994 tw7442120942922773312 tw7096740216094977857 tw6060885399603602500 tw9740347501577119131 tw6591833642139713152 tw1557559472490185698 tw5923765281405484164 tw8814686578382603508 tw750562695745119750 tw2719183200541630075 tw13231853300875706569 tw10710366077687293572 tw12515665272192851692 tw10254167400122973201 tw1794249259479790984 tw8897568487402661372 tw14156997645332511851 tw12720097553545349574 tw751021171027098616 tw11855140678079953453 tw16064719980822694385 tw17803900746576415631 tw3123359871296784775 tw7519114640921535869 tw15348260039234748055 tw12860548229415510122 tw15624669467608426177 tw16599918150183457116 tw15415733746444479355 tw11102029411206942205 tw10317178300247677039 tw4814677388820542012 tw39775889240151189 tw6298050306182953894 tw9490901935768615409 tw6942997140480971746 tw6614919199882498788 tw9583213747449268612 tw8435934710957752868 tw3113059051036657588 tw6058809220383855975 tw11039822243443099045 tw7892593579685150860 tw13091229798899195797 tw9557444394014088453 tw15515237008601397309 tw10939621985405128517 tw15720727804793567425 tw17277093764707022464 tw11351161076269527216 tw576179951964431348 tw9861961323968272613 tw7205452956905271693 tw378750235436103299 tw1705404506457660835 tw17960614468869786008 tw13748808455445754858 tw5404279653724386644 tw17505884324894310494 tw18224505431336584900 tw8568397130989881414 tw3480010005654095268 tw8810825962626005817 tw15782798898098666976 tw4028715378494828882 tw10650009516796930983 tw7001228837173295681 tw11120202317014149229 tw355388400716492858 tw7683640275729328024 tw15450183620311412726 tw6886064980259736419 tw16844164541747149811 tw2741846739284735996 tw13574768312438544368 tw5050241977901940608 tw2635730781881446859 tw9839676680524569401 tw16947161408038093802 tw9827958455391655568 tw12514611054344826325 tw2188628560878718777 tw7303429988055146240 tw17561379365888941831 tw9896837985319107471 tw12461037503719039413 tw16234362382496062127 tw4960017299206544722 tw14425596881453889181 tw13057026476993883163 tw5888491514889604592 tw4848777891129119168 tw9262648089826817309 tw6820035190007194630 tw6518901120440234637 tw10978993055535821948 tw1454955431747265209 tw6608416475992237661 tw13986309947217494787 tw4305527411821104683 tw17543597256986324173 tw8171594540519278125 tw7694974120424565658 tw12343828645178543333 tw344944875810975702 tw9816859030076602265 tw13102319720740820445 tw5269546836374567307 tw15687593346615702952 tw3999332500985204677 tw1460877281994385398 tw2259744911033569841 tw16620478465457187433 tw17529829880250218339 tw4298764540838002510 tw14098457943530511359 tw15283083621261779645 tw8018514586289753913 tw4160069480544436565 tw2453330171927355216 tw7659872426001858292 tw16748632900965583769 tw5706001797536340625 tw12800649015296265673 tw15367399373224183877 tw8278243190686072786 tw13298918347749068370 tw18184630762787579199 tw15251158671023862582 tw5929333209295779640 tw868906491096490472 tw12173038221782712503 tw9284316534738876601 tw11148001851925954346 tw1220804909441179732 tw2389234062963712946 tw6615011631701745298 tw5260781779537981559 tw6863447616857979133 tw4310152085053895954 tw4607207285323866368 tw16236217241864025088 tw5314775338918600633 tw3297440719540012995 tw12296674684646189176 tw7637894176759570809 tw2077576267177822595 tw11782318097209210590 tw3240108658599088570 tw17179858340576500593 tw17078591530436443482 tw13045395725338465360 tw9248693413761978115 tw12368303030126475262 tw15562900953277618410 tw15160190697390294822 tw5951763391110490767 tw2191872041413120370 tw15416334937190808943 tw3812122628244356455 tw3463322518822036324 tw1877071447222569410 tw5278598558438571561 tw14110274537541183556 tw6293448299583923784 tw17604587895065033268 tw542357159927803142 tw8174426142084370907 tw4337074252384549313 tw549497794587976554 tw12220337526344981555 tw9365443796299177231 tw2617986974202606827 tw4534924151193406335 tw7703287004200750931 tw647619303605077501 tw5486922719235141638 tw12064311879037436347 tw7102062983883067225 tw576661843534436625 tw1084109210133098019 tw15145738514708595629 tw16391688648960170214 tw17140839900211256289 tw3418054517723496944 tw16469666858270856201 tw4544577480893453270 tw13488044282437112123 tw12136369251470743540 tw5682879174465565605 tw13788984375903829612 tw10422735652405638469 tw144744467846397883 tw1309446784746939218 tw13672390433846401039 tw13176936124580384968 tw12867678507506241321 tw5287043424103862286 tw17105166230974851673 tw8392347920676396374 tw17578411461851373395 tw2135259163446054139 tw17483488099636340722 tw11930231552409863288 tw8225292086720912873 tw10363117458546810184 tw8895768860647189515 tw5377645880034086289 tw14320360851403859774 tw16700575688579919261 tw5030252685684351037 tw13310163564547780851 tw6176889091143596100 tw7580704110084594446 tw18051440853511908718 tw6046373674981116989 tw11284732326720221955 tw3398698714621965019 tw9718997227249854443 tw16762717325846541270 tw2825393551606315335 tw9343810402029580466 tw7453095786094055345 tw10063034584806400235 tw1145241016423317881 tw14338369000855755633 tw9061237017777574807 tw9600581212608535185 tw12139280254801991160 tw17955451278656893553 tw13903183969898417049 tw1279155834961300076 tw5887608079264090478 tw16857663003185319811 tw18117421851411493895 tw4499383457220347237 tw5117000094376753171 tw7615042556195732271 tw6736278097422180137 tw14246133948762867786 tw11160795761769338404 tw9403923875408116456 tw429134870016673939 tw4880139786415263024 tw2317864451059289011 tw775978003400764440 tw3372049518554565375 tw18424317938410064731 tw14349405802259144001 tw16044506431710664550 tw9956351784794428908 tw3289825260109694264 tw17399448426809001190 tw14417336280951862976 tw15371223006477456074 tw8246492022758989439 tw3176773648195533640 tw9996885486388391848 tw16795842399236518820 tw869089998375254449 tw1433383501288416490 tw15641317630727327096 tw2014434468492240223 tw5639211146642715844 tw9188784394291222785 tw14053514467567191256 tw10338141899736207867 tw13957006176124542067 tw14848344602777715450 tw5526883848712110399 tw4226196034789372144 tw1454813353215403565 tw7462948176379155590 tw4057425596152359124 tw13503235059944803489 tw846762484524732498 tw14416444114587718160 tw15452337572183965216 tw17517350482601627521 tw4579715112838098979 tw2605482035815047079 tw2215490341207583031 tw3125000427729272172 tw17817797275961157059 tw15560766977629407300 tw8408820945463719324 tw13052619135945731037 tw13951915335656998552 tw1715449904275481868 tw14294680441650745713 tw8907636515369385215 tw8654859631891158541 tw99034504014820983 tw7246354631045796313 tw366663784093994365 tw1190189243165536508 tw1264908884225921384 tw6463325859075154662 tw6433625187961781047 tw1038251770156708372 tw7178364213454398100 tw7330281030144266717 tw10904712024492968864 tw12717079472697860666 tw7439276287322434602 tw9800876274785263333 tw16333047545095197455 tw8959917764825681355 tw16619629384860786715 tw3508494577172860305 tw6292391249830793158 tw13902721095103577470 tw6838179532090832 tw4448618761741512085 tw2729172030131043061 tw4023552750252573664 tw8302299978130060557 tw10799485310953512715 tw9077468429944887373 tw3034716111889032239 tw12288627660718601264 tw10188740162311477307 tw7514651901184005607 tw9401595332421677004 tw8509363803674173682 tw2224387955037999637 tw13012568654866105169 tw15738912873445605669 tw14743939745187670969 tw10401922533512029355 tw16658846711002113078 tw8624863140362949486 tw4928704306340577566 tw355528364584250634 tw1230960951046028686 tw10518204194612606580 tw14371321321804192453 tw17439697047187543632 tw7526232900116571401 tw16093236302842563388 tw606908555464744364 tw9421148263414772040 tw7214233703437678854 tw9291459856528997951 tw3912599663125617913 tw9251578388901674076 tw12739662195148228364 tw977409364237154716 tw17782795413393853420 tw1899181449427306228 tw5478244581309767766 tw668796727257399600 tw8351395266930288865 tw5999159351741800916 tw1629574879399109275 tw8223962041587091552 tw5928570474465240321 tw16281471751121200669 tw12486034988655673795 tw7577245288850112596 tw2782070655046512689 tw13980207415519632700 tw12094952569194690057 tw17929490897991512618 tw11491646857397550951 tw2791155711243400725 tw12453495537178868889 tw18383870086418967288 tw13392012891874151646 tw3603154159084306341 tw6057204328124189727 tw2030725098276730913 tw5050464760156797246 tw12882078173686934654 tw16035327706403188654 tw2621837049554076216 tw2449852729440715882 tw11621658333351384776 tw10354120705531788577 tw9478352200558270104 tw8390081588758790619 tw6124201930631321029 tw479275530758201687 tw11501152739933596831 tw106309963632513858 tw15535431804171565864 tw14906643929396441969 tw9953061784970765970 tw15756176972253157139 tw246313872570012404 tw4060776238415785072 tw2349219712019613503 tw11160288449390793972 tw11181360483199209260 tw14342207709527798330 tw13192249062057058058 tw7727255065773877740 tw16486219766918257087 tw3729834173770983260 tw6037524832728510683 tw7623276294967000204 tw5718718868406895491 tw13746105672100055317 tw3818139287057644712 tw11065225088699719463 tw11526384949207041870 tw13231455629056552555 tw2014887132304827161 tw8532624776310255162 tw10245929718487928520 tw7615121249767791246 tw3082645879367671386 tw4496929818020629790 tw10446701003943835652 tw5030192442478688618 tw5786307028538236139 tw17056524871082662158 tw10224160842963967459 tw9002904693360594449 tw599066290457699930 tw10801886796867175569 tw1941818173492439357 tw8356381732027563892 tw11878560906946845467 tw11356153844424122107 tw5041223437716802401 tw5049468830383296201 tw18095692724806475927 tw11138956211725200162 tw4562696564667258252 tw1232549373186230718 tw18443463792006647899 tw12942500567372065796 tw194612286010094366 tw6237494209191817791 tw9516177113605569714 tw8212269987915129046 tw798229325542141300 tw12200112244157231214 tw14095783216917404744 tw7748326828214284388 tw7846093318751033405 tw15309937959267942141 tw6721770818878004419 tw8790320261129382155 tw16652665140133541279 tw6208535895918048760 tw3113943668813251666 tw11692338219217578360 tw8968762097403938188 tw7732187617990429557 tw17524907772891290166 tw191495689126922094 tw17337554563550287003 tw12447604252442027775 tw17146549689209437368 tw13794000245574133593 tw13014922550324932446 tw17746130167789847073 tw12565828140722452054 tw8400746179620271488 tw1919321057522367287 tw1896931122598416525 tw16761123487722001183 tw10415439475313064912 tw4066691453820725302 tw7461811095446091666 tw7173780085238885623 tw14957365876586397608 tw10000845659990071738 tw670822545969600932 tw15907678979097387855 tw10600794473628895823 tw13309382288800957014 tw2457196716693273227 tw16168281661263798317 tw863188048259298291 tw7807446689230880196 tw17123321897033662598 tw16300974011893276230 tw17877648668126301475 tw12161776104824101989 tw10738315124501405972 tw14833215988059739060 tw5869784705259944702 tw7377718443285092511 tw9586680359071859729 tw766762915671876985 tw12921318003122991260 tw6071724832668116454 tw3039587515161231747 tw8280713302888617017 tw17560125791410747081 tw6906516194282231818 tw368911344129212068 tw5584873846938310151 tw17097931538169672444 tw15582147403298599423 tw5307424370141243380 tw2415850555311129225 tw18071072562265483428 tw11244532922081759085 tw13871174308075174880 tw7920344551652720601 tw14911225283196849266 tw10046283263343086400 tw8902867163395910145 tw14593732277055491686 tw3133541518550837281 tw7799574990197049191 tw4572793127883601342 tw15834267196737372207 tw10080543289240769119 tw16946321226824080307 tw2653665029151968788 tw7894053050796811453 tw1677785214931575525 tw15458366113855776084 tw2465204601937557189 tw17466625410286829214 tw13798390655526067564 tw18184199435481072638 tw3630734684492821758 tw13800588026642552978 tw14149335412974594345 tw1932259441645660287 tw17740568515871046659 tw1241059741846560571 tw9333037782649892406 tw9312796683353146193 tw1842017019223939371 tw17633387258921151118 tw9762071018538093126 tw8362576269081234107 tw1848000175354569689 tw3167132374307369994 tw15312166183613168784 tw14118373124857422483 tw3136935732238521268 tw17438128012343786666 tw1856420392564693332 tw5181100623899457847 tw6952287562912066855 tw8253117347875669871 tw622009638321984993 tw8867320610689796815 tw7242088500427778204 tw12570035498935543557 tw6991765224826277249 tw4166988437470958269 tw7077644251997107320 tw16801657143480916202 tw16646612276811717400 tw16910666442998184615 tw14465464681953906438 tw8677629470330520 tw7103269984095579174 tw9371992329594223557 tw3060454075981528066 tw15001823570048935795 tw15480604226438387550 tw16940738489784272977 tw17632187383322807110 tw2597603520547076372 tw4869231961515729882 tw8254095691390344885 tw4423856182817690266 tw5558604864347591190 tw17998977060424009924 tw4706447027933782783 tw11221735109590937115 tw10555217115671198743 tw12272714138183238969 tw11374852789672147782 tw17347722349178173089 tw693574857619769424 tw466469689181982354 tw2404065919910418998 tw7659920908129015077 tw17612644822349518884 tw9814762128754320281 tw7344088686980014618 tw5510394469884576592 tw10325654114807319397 tw13260170478193743545 tw16720462333730366063 tw9858769440579776986 tw15404244473630755562 tw17609683721868111922 tw14576683277109664687 tw5229776843379352994 tw10775797203748875471 tw7363438476435538025 tw11893924828225513101 tw17718463422989086056 tw12905716565224570832 tw3981467461494435637 tw1925186415626801402 tw1203084907569208527 tw810720694672367408 tw15746172652605585167 tw277535720597603616 tw18364079212755793246 tw14907289924504876297 tw2318047363834541126 tw18357660718765397118 tw2489492673011132503 tw1843984445576919992 tw17274303021533031810 tw13114155466663516145 tw14133295997087539436 tw6130240407922962456 tw10582728623858567737 tw15758803809771015812 tw13373493104004131597 tw13703333368208769889 tw8395473934727054308 tw13740728643560450105 tw13223946484223558848 tw15904521619627316454 tw44869440953845318 tw8092045590846051725 tw8039112420454499130 tw8596995036268843222 tw5550163717871083580 tw6887862578756425743 tw2989447572373547899 tw4598166928620129161 tw18052564279524080242 tw3827246904118070573 tw16983410526568036457 tw7260535624783618019 tw7993297251699842503 tw3726460777676685152 tw2385024722504410533 tw29019630464594206 tw6967226995970079200 tw11763370619893946215 tw6851355831797879714 tw17252955100401470689 tw4912165504472372896 tw5761010540651227045 tw4975584131681781697 tw894045611385285324 tw10412742545756280994 tw4233557905555838477 tw14032288685648654066 tw17260750937355556493:True)
set_option maxRecDepth 100000 in
set_option maxHeartbeats 0 in
theorem PySem.Challenge.cw_sheetunits_s02_un_kind_of_holds : PySem.Challenge.rw_sheetunits_s02_un_kind_of.Holds := by
 w_on;k_headS;(case hw=>exact⟨[.int 0,.list []],by decide +kernel,by decide +kernel⟩)
 k_fillS
 refine U.walk_s02 rfl (by decide +kernel) (λw h Y=>PySem.W.kIn_of Y) ?F
 case F=>
 intro w mg h KX G
 refine' U.ad_mk ?main ?out
 case main=>
  constructor
  all_goals try dsimp only
  ·exact⟨λx v e=>qhk KX G e,λx e=>qgl KX G e⟩
  ·refine' zbl ?a ?l ?c ?k ?b;(case a=>k_is);(case l=>k_is);(case c=>k_is);(case k=>k_is);(case b=>exact λ_ _ _ _ _ _=>zjj λ_=>rfl)
  ·refine' zbl ?a ?l ?c ?k ?b;(case a=>k_is);(case l=>k_is);(case c=>k_is);(case k=>k_is);(case b=>exact λ_ _ _ _ _ _=>bnd0 rfl)
  ·refine' zbl ?a ?l ?c ?k ?b;(case a=>k_is);(case l=>k_is);(case c=>k_is);(case k=>k_is);(case b=>exact λ_ _ _ _ _ _=>zjj λ_=>rfl)
  ·refine' zbl ?a ?l ?c ?k ?b;(case a=>k_is);(case l=>k_is);(case c=>k_is);(case k=>k_is);(case b=>exact λ_ _ _ _ _ _=>zjj λ_=>rfl)
  ·refine' zbl ?a ?l ?c ?k ?b;(case a=>k_is);(case l=>k_is);(case c=>k_is);(case k=>k_is);(case b=>exact λ_ _ _ _ _ _=>ze6 λ_ _=>rfl)
  ·refine' zbl ?a ?l ?c ?k ?b;(case a=>k_is);(case l=>k_is);(case c=>k_is);(case k=>k_is);(case b=>exact λ_ _ _ _ _ _=>ze6 λ_ _=>rfl)
  ·refine' zbl ?a ?l ?c ?k ?b;(case a=>k_is);(case l=>k_is);(case c=>k_is);(case k=>k_is);(case b=>exact λ_ _ _ _ _ _=>ze6 λ_ _=>rfl)
  ·refine' zbl ?a ?l ?c ?k ?b;(case a=>k_is);(case l=>k_is);(case c=>k_is);(case k=>k_is);(case b=>exact λ_ _ _ _ _ _=>ze6 λ_ _=>rfl)
  ·refine' zbl ?a ?l ?c ?k ?b;(case a=>k_is);(case l=>k_is);(case c=>k_is);(case k=>k_is);(case b=>exact λ_ _ _ _ _ _=>zjj λ_=>rfl)
  ·refine' zbl ?a ?l ?c ?k ?b;(case a=>k_is);(case l=>k_is);(case c=>k_is);(case k=>k_is);(case b=>exact λ_ _ _ _ _ _=>zjj λ_=>rfl)
  ·refine' zbl ?a ?l ?c ?k ?b;(case a=>k_is);(case l=>k_is);(case c=>k_is);(case k=>k_is);(case b=>exact λ_ _ _ _ _ _=>zjj λ_=>rfl)
  ·refine' zbl ?a ?l ?c ?k ?b;(case a=>k_is);(case l=>k_is);(case c=>k_is);(case k=>k_is);(case b=>exact λ_ _ _ _ _ _=>ze6 λ_ _=>rfl)
  ·refine' zbl ?a ?l ?c ?k ?b;(case a=>k_is);(case l=>k_is);(case c=>k_is);(case k=>k_is);(case b=>exact λ_ _ _ _ _ _=>ze6 λ_ _=>rfl)
  ·refine' zbl ?a ?l ?c ?k ?b;(case a=>k_is);(case l=>k_is);(case c=>k_is);(case k=>k_is);(case b=>exact λ_ _ _ _ _ _=>ze6 λ_ _=>rfl)
  ·refine' zbl ?a ?l ?c ?k ?b;(case a=>k_is);(case l=>k_is);(case c=>k_is);(case k=>k_is);(case b=>exact λ_ _ _ _ _ _=>zjj λ_=>rfl)
  ·refine' zbl ?a ?l ?c ?k ?b;(case a=>k_is);(case l=>k_is);(case c=>k_is);(case k=>k_is);(case b=>exact λ_ _ _ _ _ _=>ze6 λ_ _=>rfl)
  ·refine' zbl ?a ?l ?c ?k ?b;(case a=>k_is);(case l=>k_is);(case c=>k_is);(case k=>k_is);(case b=>exact λ_ _ _ _ _ _=>qbv λ_ _ _=>rfl)
  ·refine' zbl ?a ?l ?c ?k ?b;(case a=>k_is);(case l=>k_is);(case c=>k_is);(case k=>k_is);(case b=>exact λ_ _ _ _ _ _=>ze6 λ_ _=>rfl)
  ·refine' zbl ?a ?l ?c ?k ?b;(case a=>k_is);(case l=>k_is);(case c=>k_is);(case k=>k_is);(case b=>exact λ_ _ _ _ _ _=>ze6 λ_ _=>rfl)
  ·refine' zbl ?a ?l ?c ?k ?b;(case a=>k_is);(case l=>k_is);(case c=>k_is);(case k=>k_is);(case b=>exact λ_ _ _ _ _ _=>qbv λ_ _ _=>rfl)
  ·refine' zbl ?a ?l ?c ?k ?b;(case a=>k_is);(case l=>k_is);(case c=>k_is);(case k=>k_is);(case b=>exact λ_ _ _ _ _ _=>qbv λ_ _ _=>rfl)
  ·refine' zbl ?a ?l ?c ?k ?b;(case a=>k_is);(case l=>k_is);(case c=>k_is);(case k=>k_is);(case b=>exact λ_ _ _ _ _ _=>zjj λ_=>rfl)
  ·refine' zbl ?a ?l ?c ?k ?b;(case a=>k_is);(case l=>k_is);(case c=>k_is);(case k=>k_is);(case b=>exact λ_ _ _ _ _ _=>zjj λ_=>rfl)
  ·refine' zbl ?a ?l ?c ?k ?b;(case a=>k_is);(case l=>k_is);(case c=>k_is);(case k=>k_is);(case b=>exact λ_ _ _ _ _ _=>ze6 λ_ _=>rfl)
  ·refine' zbl ?a ?l ?c ?k ?b;(case a=>k_is);(case l=>k_is);(case c=>k_is);(case k=>k_is);(case b=>exact λ_ _ _ _ _ _=>ze6 λ_ _=>rfl)
  ·refine' zbl ?a ?l ?c ?k ?b;(case a=>k_is);(case l=>k_is);(case c=>k_is);(case k=>k_is);(case b=>exact λ_ _ _ _ _ _=>qbv λ_ _ _=>rfl)
  ·refine' zbl ?a ?l ?c ?k ?b;(case a=>k_is);(case l=>k_is);(case c=>k_is);(case k=>k_is);(case b=>exact λ_ _ _ _ _ _=>zjj λ_=>rfl)
  ·refine' zbl ?a ?l ?c ?k ?b;(case a=>k_is);(case l=>k_is);(case c=>k_is);(case k=>k_is);(case b=>exact λ_ _ _ _ _ _=>zjj λ_=>rfl)
  ·refine' zbl ?a ?l ?c ?k ?b;(case a=>k_is);(case l=>k_is);(case c=>k_is);(case k=>k_is);(case b=>exact λ_ _ _ _ _ _=>ze6 λ_ _=>rfl)
  ·refine' zbl ?a ?l ?c ?k ?b;(case a=>k_is);(case l=>k_is);(case c=>k_is);(case k=>k_is);(case b=>exact λ_ _ _ _ _ _=>qbv λ_ _ _=>rfl)
  ·refine' zbl ?a ?l ?c ?k ?b;(case a=>k_is);(case l=>k_is);(case c=>k_is);(case k=>k_is);(case b=>exact λ_ _ _ _ _ _=>ze6 λ_ _=>rfl)
  ·refine' zbl ?a ?l ?c ?k ?b;(case a=>k_is);(case l=>k_is);(case c=>k_is);(case k=>k_is);(case b=>exact λ_ _ _ _ _ _=>zjj λ_=>rfl)
  ·refine' zbl ?a ?l ?c ?k ?b;(case a=>k_is);(case l=>k_is);(case c=>k_is);(case k=>k_is);(case b=>exact λ_ _ _ _ _ _=>zjj λ_=>rfl)
  ·refine' zbl ?a ?l ?c ?k ?b;(case a=>k_is);(case l=>k_is);(case c=>k_is);(case k=>k_is);(case b=>exact λ_ _ _ _ _ _=>qbv λ_ _ _=>rfl)
  ·refine' zbl ?a ?l ?c ?k ?b;(case a=>k_is);(case l=>k_is);(case c=>k_is);(case k=>k_is);(case b=>exact λ_ _ _ _ _ _=>ze6 λ_ _=>rfl)
  ·refine' zbl ?a ?l ?c ?k ?b;(case a=>k_is);(case l=>k_is);(case c=>k_is);(case k=>k_is);(case b=>exact λ_ _ _ _ _ _=>ze6 λ_ _=>rfl)
  ·refine' zbl ?a ?l ?c ?k ?b;(case a=>k_is);(case l=>k_is);(case c=>k_is);(case k=>k_is);(case b=>exact λ_ _ _ _ _ _=>ze6 λ_ _=>rfl)
  ·refine' zbl ?a ?l ?c ?k ?b;(case a=>k_is);(case l=>k_is);(case c=>k_is);(case k=>k_is);(case b=>exact λ_ _ _ _ _ _=>zjj λ_=>rfl)
  ·refine' zbl ?a ?l ?c ?k ?b;(case a=>k_is);(case l=>k_is);(case c=>k_is);(case k=>k_is);(case b=>exact λ_ _ _ _ _ _=>zjj λ_=>rfl)
  ·refine' zbl ?a ?l ?c ?k ?b;(case a=>k_is);(case l=>k_is);(case c=>k_is);(case k=>k_is);(case b=>exact λ_ _ _ _ _ _=>zjj λ_=>rfl)
  ·refine' zbl ?a ?l ?c ?k ?b;(case a=>k_is);(case l=>k_is);(case c=>k_is);(case k=>k_is);(case b=>exact λ_ _ _ _ _ _=>ze6 λ_ _=>rfl)
  ·refine' zbl ?a ?l ?c ?k ?b;(case a=>k_is);(case l=>k_is);(case c=>k_is);(case k=>k_is);(case b=>exact λ_ _ _ _ _ _=>ze6 λ_ _=>rfl)
  ·refine' gfc_mk ?a ?l ?c ?k ?d ?ne ?b;(case a=>k_is);(case l=>k_is);(case c=>k_is);(case k=>k_is);(case d=>k_is);(case ne=>rfl);(case b=>exact λ_ _ _ _ _ _=>zjj λ_=>rfl)
  ·refine' ziv KX G ?e;(case e=>k_is)
  ·refine' zqd KX G ?e;(case e=>k_is)
  ·refine' ziv KX G ?e;(case e=>k_is)
  ·refine' ziv KX G ?e;(case e=>k_is)
  ·refine' ziv KX G ?e;(case e=>k_is)
  ·refine' ziv KX G ?e;(case e=>k_is)
  ·refine' ziv KX G ?e;(case e=>k_is)
  ·refine' ziv KX G ?e;(case e=>k_is)
  ·refine' ziv KX G ?e;(case e=>k_is)
  ·refine' ziv KX G ?e;(case e=>k_is)
  ·refine' ziv KX G ?e;(case e=>k_is)
  ·refine' ziv KX G ?e;(case e=>k_is)
  ·refine' ziv KX G ?e;(case e=>k_is)
  ·refine' ziv KX G ?e;(case e=>k_is)
  ·refine' zqd KX G ?e;(case e=>k_is)
  ·refine' zqd KX G ?e;(case e=>k_is)
  ·refine' zqd KX G ?e;(case e=>k_is)
  ·refine' zqd KX G ?e;(case e=>k_is)
  ·refine' zqd KX G ?e;(case e=>k_is)
  ·refine' zqd KX G ?e;(case e=>k_is)
  ·refine' zqd KX G ?e;(case e=>k_is)
  ·refine' c_tup6 KX G ?e ?l;(case e=>k_is);(case l=>k_is)
  ·refine' qgl KX G ?e;(case e=>k_is)
  ·refine' qgl KX G ?e;(case e=>k_is)
  ·refine' qgl KX G ?e;(case e=>k_is)
  ·refine' qgl KX G ?e;(case e=>k_is)
  ·refine' qgl KX G ?e;(case e=>k_is)
  ·refine' qgl KX G ?e;(case e=>k_is)
  ·refine' qgl KX G ?e;(case e=>k_is)
  ·refine' qgl KX G ?e;(case e=>k_is)
  ·refine' qgl KX G ?e;(case e=>k_is)
  ·refine' qgl KX G ?e;(case e=>k_is)
  ·refine' qgl KX G ?e;(case e=>k_is)
  ·refine' qgl KX G ?e;(case e=>k_is)
  ·refine' qhk KX G ?e;(case e=>k_is)
  ·refine' r_mk ?c;(case c=>k_is)
  ·refine' ri_mk ?s1 ?s2 ?s3 ?l ?cd ?kf ?b;(case s1=>k_is);(case s2=>k_is);(case s3=>k_is);(case l=>k_is);(case cd=>k_is);(case kf=>k_is);(case b=>exact λ_ _ _ _ _ _=>qbv λ_ _ _=>rfl)
  ·refine' qe6 KX G ?a ?c ?sa ?ga ?gh ?nn ?na ?kp ?i ?fn ?l ?cd ?kf ?b;(case a=>k_is);(case c=>k_is);(case sa=>k_is);(case ga=>k_is);(case gh=>k_is);(case nn=>k_is);(case na=>k_is);(case kp=>k_is);(case i=>k_is);(case fn=>k_is);(case l=>k_is);(case cd=>k_is);(case kf=>k_is);(case b=>exact λ_ _ _ _ _ _=>ze6 λ_ _=>rfl)
  ·refine' qe6 KX G ?a ?c ?sa ?ga ?gh ?nn ?na ?kp ?i ?fn ?l ?cd ?kf ?b;(case a=>k_is);(case c=>k_is);(case sa=>k_is);(case ga=>k_is);(case gh=>k_is);(case nn=>k_is);(case na=>k_is);(case kp=>k_is);(case i=>k_is);(case fn=>k_is);(case l=>k_is);(case cd=>k_is);(case kf=>k_is);(case b=>exact λ_ _ _ _ _ _=>zjj λ_=>rfl)
  ·refine' qe6 KX G ?a ?c ?sa ?ga ?gh ?nn ?na ?kp ?i ?fn ?l ?cd ?kf ?b;(case a=>k_is);(case c=>k_is);(case sa=>k_is);(case ga=>k_is);(case gh=>k_is);(case nn=>k_is);(case na=>k_is);(case kp=>k_is);(case i=>k_is);(case fn=>k_is);(case l=>k_is);(case cd=>k_is);(case kf=>k_is);(case b=>exact λ_ _ _ _ _ _=>ze6 λ_ _=>rfl)
  ·refine' qe6 KX G ?a ?c ?sa ?ga ?gh ?nn ?na ?kp ?i ?fn ?l ?cd ?kf ?b;(case a=>k_is);(case c=>k_is);(case sa=>k_is);(case ga=>k_is);(case gh=>k_is);(case nn=>k_is);(case na=>k_is);(case kp=>k_is);(case i=>k_is);(case fn=>k_is);(case l=>k_is);(case cd=>k_is);(case kf=>k_is);(case b=>exact λ_ _ _ _ _ _=>ze6 λ_ _=>rfl)
  ·refine' qe6 KX G ?a ?c ?sa ?ga ?gh ?nn ?na ?kp ?i ?fn ?l ?cd ?kf ?b;(case a=>k_is);(case c=>k_is);(case sa=>k_is);(case ga=>k_is);(case gh=>k_is);(case nn=>k_is);(case na=>k_is);(case kp=>k_is);(case i=>k_is);(case fn=>k_is);(case l=>k_is);(case cd=>k_is);(case kf=>k_is);(case b=>exact λ_ _ _ _ _ _=>ze6 λ_ _=>rfl)
  ·refine' qe6 KX G ?a ?c ?sa ?ga ?gh ?nn ?na ?kp ?i ?fn ?l ?cd ?kf ?b;(case a=>k_is);(case c=>k_is);(case sa=>k_is);(case ga=>k_is);(case gh=>k_is);(case nn=>k_is);(case na=>k_is);(case kp=>k_is);(case i=>k_is);(case fn=>k_is);(case l=>k_is);(case cd=>k_is);(case kf=>k_is);(case b=>exact λ_ _ _ _ _ _=>zjj λ_=>rfl)
  ·refine' qhk KX G ?e;(case e=>k_is)
  ·refine' Cls.mk ?pg ?hd ?po ?sa;(case pg=>k_is);(case hd=>k_is);(case po=>k_is);(case sa=>k_is)
  ·refine' i_mk ?mk ?i ?fn ?kp ?l ?cd ?kf ?b;(case mk=>k_is);(case i=>k_is);(case fn=>k_is);(case kp=>k_is);(case l=>k_is);(case cd=>k_is);(case kf=>k_is);(case b=>exact λ_ _ _ _ _ _=>bnd5 λ_ _ _ _ _=>rfl)
  ·show qfp _ _ _=_;k_is
  ·show qfp _ _ _=_;k_is
  ·show qfp _ _ _=_;k_is
  ·show qfp _ _ _=_;k_is
  ·refine' qhk KX G ?e;(case e=>k_is)
  ·refine' Cls.mk ?pg ?hd ?po ?sa;(case pg=>k_is);(case hd=>k_is);(case po=>k_is);(case sa=>k_is)
  ·refine' i_mk ?mk ?i ?fn ?kp ?l ?cd ?kf ?b;(case mk=>k_is);(case i=>k_is);(case fn=>k_is);(case kp=>k_is);(case l=>k_is);(case cd=>k_is);(case kf=>k_is);(case b=>exact λ_ _ _ _ _ _=>ze6 λ_ _=>rfl)
  ·show qfp _ _ _=_;k_is
  ·show qfp _ _ _=_;k_is
  ·show qfp _ _ _=_;k_is
  ·refine' zdu ?a ?i ?l ?c ?k ?b;(case a=>k_is);(case i=>k_is);(case l=>k_is);(case c=>k_is);(case k=>k_is);(case b=>exact λ_ _ _ _ _ _=>zjj λ_=>rfl)
  ·refine' zdu ?a ?i ?l ?c ?k ?b;(case a=>k_is);(case i=>k_is);(case l=>k_is);(case c=>k_is);(case k=>k_is);(case b=>exact λ_ _ _ _ _ _=>ze6 λ_ _=>rfl)
  ·refine' zdu ?a ?i ?l ?c ?k ?b;(case a=>k_is);(case i=>k_is);(case l=>k_is);(case c=>k_is);(case k=>k_is);(case b=>exact λ_ _ _ _ _ _=>ze6 λ_ _=>rfl)
  ·refine' zdu ?a ?i ?l ?c ?k ?b;(case a=>k_is);(case i=>k_is);(case l=>k_is);(case c=>k_is);(case k=>k_is);(case b=>exact λ_ _ _ _ _ _=>bnd4 λ_ _ _ _=>rfl)
  ·refine' zdu ?a ?i ?l ?c ?k ?b;(case a=>k_is);(case i=>k_is);(case l=>k_is);(case c=>k_is);(case k=>k_is);(case b=>exact λ_ _ _ _ _ _=>zjj λ_=>rfl)
  ·refine' zdu ?a ?i ?l ?c ?k ?b;(case a=>k_is);(case i=>k_is);(case l=>k_is);(case c=>k_is);(case k=>k_is);(case b=>exact λ_ _ _ _ _ _=>zjj λ_=>rfl)
  ·refine' zdu ?a ?i ?l ?c ?k ?b;(case a=>k_is);(case i=>k_is);(case l=>k_is);(case c=>k_is);(case k=>k_is);(case b=>exact λ_ _ _ _ _ _=>zjj λ_=>rfl)
  ·refine' zdu ?a ?i ?l ?c ?k ?b;(case a=>k_is);(case i=>k_is);(case l=>k_is);(case c=>k_is);(case k=>k_is);(case b=>exact λ_ _ _ _ _ _=>zjj λ_=>rfl)
  ·refine' zdu ?a ?i ?l ?c ?k ?b;(case a=>k_is);(case i=>k_is);(case l=>k_is);(case c=>k_is);(case k=>k_is);(case b=>exact λ_ _ _ _ _ _=>ze6 λ_ _=>rfl)
  ·refine' zdu ?a ?i ?l ?c ?k ?b;(case a=>k_is);(case i=>k_is);(case l=>k_is);(case c=>k_is);(case k=>k_is);(case b=>exact λ_ _ _ _ _ _=>ze6 λ_ _=>rfl)
  ·refine' zdu ?a ?i ?l ?c ?k ?b;(case a=>k_is);(case i=>k_is);(case l=>k_is);(case c=>k_is);(case k=>k_is);(case b=>exact λ_ _ _ _ _ _=>ze6 λ_ _=>rfl)
  ·refine' zdu ?a ?i ?l ?c ?k ?b;(case a=>k_is);(case i=>k_is);(case l=>k_is);(case c=>k_is);(case k=>k_is);(case b=>exact λ_ _ _ _ _ _=>ze6 λ_ _=>rfl)
  ·refine' zdu ?a ?i ?l ?c ?k ?b;(case a=>k_is);(case i=>k_is);(case l=>k_is);(case c=>k_is);(case k=>k_is);(case b=>exact λ_ _ _ _ _ _=>ze6 λ_ _=>rfl)
  ·refine' zdu ?a ?i ?l ?c ?k ?b;(case a=>k_is);(case i=>k_is);(case l=>k_is);(case c=>k_is);(case k=>k_is);(case b=>exact λ_ _ _ _ _ _=>zjj λ_=>rfl)
  ·refine' zdu ?a ?i ?l ?c ?k ?b;(case a=>k_is);(case i=>k_is);(case l=>k_is);(case c=>k_is);(case k=>k_is);(case b=>exact λ_ _ _ _ _ _=>ze6 λ_ _=>rfl)
  ·refine' zdu ?a ?i ?l ?c ?k ?b;(case a=>k_is);(case i=>k_is);(case l=>k_is);(case c=>k_is);(case k=>k_is);(case b=>exact λ_ _ _ _ _ _=>ze6 λ_ _=>rfl)
  ·refine' qhk KX G ?e;(case e=>k_is)
  ·refine' Cls.mk ?pg ?hd ?po ?sa;(case pg=>k_is);(case hd=>k_is);(case po=>k_is);(case sa=>k_is)
  ·refine' i_mk ?mk ?i ?fn ?kp ?l ?cd ?kf ?b;(case mk=>k_is);(case i=>k_is);(case fn=>k_is);(case kp=>k_is);(case l=>k_is);(case cd=>k_is);(case kf=>k_is);(case b=>exact λ_ _ _ _ _ _=>bnd4 λ_ _ _ _=>rfl)
  ·show qfp _ _ _=_;k_is
  ·show qfp _ _ _=_;k_is
  ·show qfp _ _ _=_;k_is
  ·refine' qhk KX G ?e;(case e=>k_is)
  ·refine' Cls.mk ?pg ?hd ?po ?sa;(case pg=>k_is);(case hd=>k_is);(case po=>k_is);(case sa=>k_is)
  ·refine' i_mk ?mk ?i ?fn ?kp ?l ?cd ?kf ?b;(case mk=>k_is);(case i=>k_is);(case fn=>k_is);(case kp=>k_is);(case l=>k_is);(case cd=>k_is);(case kf=>k_is);(case b=>exact λ_ _ _ _ _ _=>qbv λ_ _ _=>rfl)
  ·show qfp _ _ _=_;k_is
  ·show qfp _ _ _=_;k_is
  ·show qfp _ _ _=_;k_is
  ·show qfp _ _ _=_;k_is
  ·show qfp _ _ _=_;k_is
  ·show qfp _ _ _=_;k_is
  ·refine' zdu ?a ?i ?l ?c ?k ?b;(case a=>k_is);(case i=>k_is);(case l=>k_is);(case c=>k_is);(case k=>k_is);(case b=>exact λ_ _ _ _ _ _=>ze6 λ_ _=>rfl)
  ·refine' zdu ?a ?i ?l ?c ?k ?b;(case a=>k_is);(case i=>k_is);(case l=>k_is);(case c=>k_is);(case k=>k_is);(case b=>exact λ_ _ _ _ _ _=>zjj λ_=>rfl)
  ·refine' zdu ?a ?i ?l ?c ?k ?b;(case a=>k_is);(case i=>k_is);(case l=>k_is);(case c=>k_is);(case k=>k_is);(case b=>exact λ_ _ _ _ _ _=>qbv λ_ _ _=>rfl)
  ·refine' zdu ?a ?i ?l ?c ?k ?b;(case a=>k_is);(case i=>k_is);(case l=>k_is);(case c=>k_is);(case k=>k_is);(case b=>exact λ_ _ _ _ _ _=>ze6 λ_ _=>rfl)
  ·refine' zdu ?a ?i ?l ?c ?k ?b;(case a=>k_is);(case i=>k_is);(case l=>k_is);(case c=>k_is);(case k=>k_is);(case b=>exact λ_ _ _ _ _ _=>ze6 λ_ _=>rfl)
  ·refine' zdu ?a ?i ?l ?c ?k ?b;(case a=>k_is);(case i=>k_is);(case l=>k_is);(case c=>k_is);(case k=>k_is);(case b=>exact λ_ _ _ _ _ _=>ze6 λ_ _=>rfl)
  ·refine' zdu ?a ?i ?l ?c ?k ?b;(case a=>k_is);(case i=>k_is);(case l=>k_is);(case c=>k_is);(case k=>k_is);(case b=>exact λ_ _ _ _ _ _=>ze6 λ_ _=>rfl)
 case out=>first|kernel_rfl|rfl
