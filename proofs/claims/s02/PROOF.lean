import PyProof.Rows.All
import Wide.All
import OpenK.AllK
import Wide.FinOn
import PyProof.EqAt
import PyProof.EqKinds
import PyProof.TupleCall
import KE.BitLaws
import Open.SpecLaws
import KE.OsHead
import KE.OsGo
import PyProof.ObjNew
import PyProof.InstStoreFacts
import PyProof.ExcAttrAll.Exception
import KE.KLam
import KE.KDictList
import PyProof.ListRange
import PyProof.Rows.RuleM_int
import PyProof.Rows.SortShellAny
import KE.IntTextText
import KE.IntTextLaws
import KE.KSortKey
import KE.KSortTupUse
import KE.KEqDeep
import PySem.Challenge.RW_leastroom_s01_answers
set_option Elab.async false
set_option linter.all false
set_option compiler.extract_closed false
set_option bootstrap.genMatcherCode false
set_option genSizeOf false
set_option maxRecDepth 100000
set_option maxHeartbeats 4000000
theorem Lake.Pr.u6:PySem.Challenge.rw_leastroom_s01_answers.wellSaid=true:=by decide+kernel
open List (length_map length_append getElem?_eq_getElem mem_cons mem_map map_cons length_cons mem_cons_of_mem map_map mem_cons_self mem_append mem_of_getElem? mem_singleton map_append length_drop replicate size_toArray mem_append_right mem_range getElem?_map append_assoc append_nil any_eq_true any_cons length_nil length_range lookup_cons length_take sum_cons map_congr_left nodup_range take_length nodup_cons map_nil takeWhile_cons mem_filter getElem?_append_right getElem?_append_left replicate_succ flatten_cons find?_cons take_add_one getElem?_zip_eq_some eq_nil_of_length_eq_zero pairwise_cons all_cons all_eq_true getElem?_of_mem flatMap_cons contains_iff_mem drop_drop mem_filterMap getElem?_replicate foldl_cons find?_eq_none mem_of_find?_eq_some find?_some mem_append_left getElem?_set_ne length_replicate nil_append take_of_length_le length_filter_le nodup_append map_id sum_append set_set takeWhile_prefix filterMap_cons getElem?_set_self length_set getElem?_eq_none contains_cons foldl_append filter_cons range_succ drop_eq_nil_of_le any_nil map_drop of_mem_zip foldl any_map reverse_cons mem_flatMap filter_append map_take not_mem_nil drop_length)
open Valaya (countLeaves leavesBy showTy leavesOf takeTy rowLength dotted takeInt bitsFor width shownRec takeRecs read LEAVES takeCount takeAlign takeAlts takeFields ALTS RECORDS bitsBy showFields LARGE DEPTH ALIGNS)
open PySem.W (Frag fnOf findIn emptyDict instObj hideAll_none keepIn isFn hideAll of_hideAll callWith_K ns_none_of lookIn plainGet methodCall_KW nsIn methodObj hasDictIn plainGet_of takerIn typeIn callWith_K0 codeIn funFrames_hide envX CodeHd hideAll_get handedIn plainOver makesIn cellsFrom_some WRecords kla_obj kla_fn tabObj ke_shaped_ints nsOkIn tabIn WalkOS tab_of)
open PySem.Heap (lt_size get?_push_of_some get?_push_size size_push get?_update_other get?_update_self Ns)
open Nat (zero_le ne_of_lt lt_of_lt_of_le one_mul add_mul ne_of_gt min_eq_left zero_add le_of_eq lt_succ_self mul_le_mul_right lt_or_ge le_of_not_lt le_succ toDigits le_max_left lt_div_mul_add add_comm mul_comm le_add_right lt_or_eq_of_le max_eq_right max_eq_left max_le le_of_succ_le pow_succ add_zero le_add_left digitChar log2_lt max_def mod_lt)
open ValayBase (Fault takeSign showInt showNat isDigit takeName here decimal token taken numberOf nextWord isLetter takeWord TEXT isBlank index NUMBER wrong tokEq tokens SIGNS RESERVED faulty)
open Valaye (sharedBits)
open Valayc (bitsOf endOf crosses leastOf FEW startsOf ordersBy ruleOrder hinders layoutRow layoutOf withWord withFew readOrder firstFit FUEL leastCount rightFor before spanOf judgeCall WORDS)
open Valayb (apart overlap SIZE wrongAt startOf_)
open Option (map_eq_some_iff map_eq_none_iff map_some isSome_iff_exists isSome_map getD_none isSome_some)
open PyProof.Rows (boot_ord boot_str boot_int boot_max boot_sum boot_any boot_sorted join_list join_tuple boot_dict boot_all)
open ValaycNeutral (bytesOf natural asked1 callOf)
namespace Lake
namespace L2
open PySem PySem.Spec PyProof.Rows
abbrev Key:=Sum Int Str
def Sh:Key->Value->Bool
 | .inl k,v=>Value.isInt k v
 | .inr x,v=>Value.isStrOf x v
def ym(w:World):Key->Int
 | .inl k=>hashInt k
 | .inr x=>hashStr w x
theorem Cd:∀{k:Key} {v:Value},Sh k v=true->(∃i t,k=Sum.inl i/\v=Value.int i t)\/(∃x t,k=Sum.inr x/\v=Value.str x t)
 | .inl i,v,h=>by obtain⟨t,e⟩:=Value.isInt_shape (k:=i) (v:=v) h;exact .inl ⟨i,t,rfl,e⟩
 | .inr x,v,h=>by obtain⟨t,e⟩:=Value.isStrOf_shape (x:=x) (v:=v) h;exact .inr ⟨x,t,rfl,e⟩
theorem mV(i:Int)(t:Tok):Sh (.inl i) (.int i t)=true:=by simp[Sh,Value.isInt]
theorem mW(x:Str)(t:Tok):Sh (.inr x) (.str x t)=true:=by simp[Sh,Value.isStrOf]
theorem u7(a b:Int):decide ((Sum.inl a:Key)=Sum.inl b)=(a==b):=by
 by_cases e:a=b
 ·subst e;simp
 ·have h:¬(Sum.inl a:Key)=Sum.inl b:=λq=>e (Sum.inl.inj q);rw[decide_eq_false h];exact(beq_eq_false_iff_ne.mpr e).symm
theorem u9(a b:Str):decide ((Sum.inr a:Key)=Sum.inr b)=decide (a=b):=by
 by_cases e:a=b
 ·subst e;simp
 ·have h:¬(Sum.inr a:Key)=Sum.inr b:=λq=>e (Sum.inr.inj q);rw[decide_eq_false h,decide_eq_false e]
theorem vA(a:Int)(b:Str):decide ((Sum.inl a:Key)=Sum.inr b)=false:=decide_eq_false (λq=>nomatch q)
theorem vB(a:Str)(b:Int):decide ((Sum.inr a:Key)=Sum.inl b)=false:=decide_eq_false (λq=>nomatch q)
def Bh(prog:Program)(w:World):PySem.KeyKind prog w Key where
 is:=Sh
 hash:=ym w
 inj:=λv a b ha hb=>by
  rcases Cd ha with⟨i,t,rfl,rfl⟩ | ⟨x,t,rfl,rfl⟩
  ·rcases Cd hb with⟨j,u,rfl,e⟩ | ⟨y,u,rfl,e⟩
   ·injection e with e1 _;rw[e1]
   ·exact nomatch e
  ·rcases Cd hb with⟨j,u,rfl,e⟩ | ⟨y,u,rfl,e⟩
   ·exact nomatch e
   ·injection e with e1 _;rw[e1]
 byValue:=λk v h=>by rcases Cd h with⟨i,t,rfl,rfl⟩ | ⟨x,t,rfl,rfl⟩<;>rfl
 pyHash:=λhv h=>by
  rcases Cd hv with⟨i,t,rfl,rfl⟩ | ⟨x,t,rfl,rfl⟩
  ·exact wpAny_pyHash_int h
  ·exact wpAny_pyHash_str h
 eqBool:=λhu hv h=>by
  rcases Cd hu with⟨i,t,rfl,rfl⟩ | ⟨x,t,rfl,rfl⟩
  ·rcases Cd hv with⟨j,u,rfl,rfl⟩ | ⟨y,u,rfl,rfl⟩
   ·rw[u7] at h;exact wpAny_eqBool_int h
   ·rw[vA] at h;exact SeqAt.EqAt.int_str i t y u _ _ _ _ h
  ·rcases Cd hv with⟨j,u,rfl,rfl⟩ | ⟨y,u,rfl,rfl⟩
   ·rw[vB] at h;exact SeqAt.EqAt.str_int x t j u _ _ _ _ h
   ·rw[u9] at h;exact wpAny_eqBool_str h
 «strs»:=λk x t v h=>by
  rcases Cd h with⟨i,u,rfl,e⟩ | ⟨y,u,rfl,e⟩
  ·exact nomatch e
  ·injection e with e1 _
   subst e1;cases v<;>rfl
theorem jK(prog:Program)(w:World)(k:Key)(v:Value):(Bh prog w).is k v=Sh k v:=rfl
theorem gp(prog:Program)(w:World)(i:Int)(t:Tok):(Bh prog w).is (.inl i) (.int i t)=true:=mV i t
theorem gq(prog:Program)(w:World)(x:Str)(t:Tok):(Bh prog w).is (.inr x) (.str x t)=true:=mW x t
end L2
namespace L2
open PySem PySem.Spec PyProof.Rows
inductive V where
 |Fn | bl (b:Bool) | int (i:Int) | str (x:Str) | iP (b:Array UInt8) | yR (b:UInt64) | ref (a:Addr) | ty (n:String)
 deriving DecidableEq
def BI:V->Value->Prop
 | .Fn,u=>u=Value.none
 | .bl b,u=>u=Value.bool b
 | .int i,u=>∃t,u=Value.int i t
 | .str x,u=>∃t,u=Value.str x t
 | .iP b,u=>∃t,u=Value.bytes b t
 | .yR b,u=>∃t,u=Value.float b t
 | .ref a,u=>u=Value.ref a
 | .ty n,u=>u=Value.type n
abbrev Vals:List V->List Value->Prop:=Paired BI
theorem Vals.length{xs:List V}{us:List Value}(r:Vals xs us):xs.length=us.length:=Paired.length r
theorem Vals.get:∀{xs:List V} {us:List Value} {i:Nat} {x:V},Vals xs us->xs[i]?=some x->∃u,us[i]?=some u/\BI x u
 |_,_,_,_,.nil,e=>by simp at e
 |_,_,0,_,.cons r _,e=>by simp at e;subst e;exact⟨_,rfl,r⟩
 |_,_,i+1,x,.cons _ t,e=>by obtain⟨u,h1,h2⟩:=Vals.get (i:=i) (x:=x) t (by simpa using e);exact⟨u,by simpa using h1,h2⟩
theorem Vals.set{x:V}{u:Value}(r:BI x u):∀{xs:List V} {us:List Value} (i:Nat),Vals xs us->Vals (xs.set i x) (us.set i u)
 |_,_,_,.nil=> .nil
 |_,_,0,.cons _ t=> .cons r t
 |_,_,i+1,.cons q t=> .cons q (Vals.set r i t)
theorem Vals.append:∀{xs ys:List V} {us ws:List Value},Vals xs us->Vals ys ws->Vals (xs++ys) (us++ws)
 |_,_,_,_,.nil,s=>s
 |_,_,_,_,.cons r t,s=> .cons r (Vals.append t s)
theorem Vals.take:∀{xs:List V} {us:List Value} (n:Nat),Vals xs us->Vals (xs.take n) (us.take n)
 |_,_,0,_=> .nil
 |_,_,_+1,.nil=> .nil
 |_,_,n+1,.cons r t=> .cons r (Vals.take n t)
theorem Vals.drop:∀{xs:List V} {us:List Value} (n:Nat),Vals xs us->Vals (xs.drop n) (us.drop n)
 |_,_,0,r=>r
 |_,_,_+1,.nil=> .nil
 |_,_,n+1,.cons _ t=>Vals.drop n t
def KI:Option V->Option Value->Prop
 |some v,some u=>BI v u
 |none,none=>True
 |_,_=>False
def KV{κ:Type}:List (κ×V)->List (κ×Value)->Prop:=Paired λ(p:κ×V) (q:κ×Value)=>p.1=q.1/\BI p.2 q.2
def kV:Key->V
 | .inl i=> .int i
 | .inr x=> .str x
inductive HO where
 |lst (xs:List V)
 |tup (xs:List V)
 |dK (kvs:List (Key×V)) | dT (kvs:List (List Key×V))
 |set (S:Int->Bool) (n:Nat)
 |ins (C dx:Addr) (fs:List (Str×V))
 |own (x:Addr)
 |xd (fs:List (Str×V))
 |met (f x:Addr)
 |yZ (lo hi:Int)
 |bQ (o:Obj) (u:HO)
 |YM (ps:Array Value)
 |ext (φ:Heap->Prop)
abbrev Hp:=Addr->Option HO
def upd(H:Hp)(a:Addr)(o:HO):Hp:=λb=>if b=a then some o else H b
theorem AG{H:Hp}{a:Addr}{o:HO}:upd H a o a=some o:=by unfold upd;rw[if_pos rfl]
theorem AM{H:Hp}{a b:Addr}{o:HO}(h:b≠a):upd H a o b=H b:=by unfold upd;rw[if_neg h]
theorem BR{H:Hp}{a:Addr}{o u:HO}:upd (upd H a o) a u=upd H a u:=by funext b;unfold upd;split<;>rfl
theorem kF{H:Hp}{a b:Addr}{o u:HO}(h:H a=some o)(h':H b=some u)(d:o≠u):a≠b:=by intro e;subst e;rw[h] at h';exact d (Option.some.inj h')
theorem Ax{H:Hp}{a b:Addr}{o:HO}(h:H a=some o)(h':H b=none):a≠b:=by intro e;subst e;rw[h] at h';cases h'
section
variable(P:Program)(w:World)
def CT(H:Hp)(h:Heap)(a:Addr):HO->Prop
 | .lst xs=>xs.length<=sizeLine/\∃(A7:List Value) (n:Nat),Vals xs A7/\h.get? a=some {cls:= .type "list",data:= .seq A7.toArray n}
 | .tup xs=>xs.length<=sizeLine/\∃A7:List Value,Vals xs A7/\IsTup h a A7.toArray
 | .dK kvs=>kvs.length<=sizeLine/\(a==sysModules)=false/\∃vs,KV kvs vs/\h.DictOf (Bh P w) a vs
 | .dT kvs=>kvs.length<=sizeLine/\(a==sysModules)=false/\∃xs:List (List Key×Addr×Value),
   Paired (λ(p:List Key×V) (q:List Key×Addr×Value)=>p.1=q.1/\H q.2.1=some (.tup (p.1.map kV))/\BI p.2 q.2.2) kvs xs/\
   ∃o es ep,h.get? a=some o/\o.ExactDict/\o.data= .dict es ep/\es.toList=xs.map (entryOfKey (tupleKind (Bh P w)))/\(xs.map (·.1)).Nodup
 | .set S n=>h.SetOf (intKind P w) a S n
 | .ins C dx fs=>H dx=some (.own a)/\fs.length<=1000/\dx≠a/\h.get? a=some (instObj C dx)/\
   ∃mA,h.Ns1 dx mA/\(∀f,KI (fs.lookup f) (mA f))/\PySem.Within mA (fs.map (·.1))
 | .own _=>∃o,h.get? a=some o
 | .xd fs=>∃mA,h.Ns1 a mA/\∀f,KI (fs.lookup f) (mA f)
 | .yZ lo hi=>∃t u v,h.get? a=some {cls:= .type "range",data:= .fields #[.int lo t,.int hi u,.int 1 v]}
 | .bQ o u=>h.get? a=some o/\CT H h a u
 | .YM ps=>h.get? a=some {cls:= .none,data:= .fields ps}
 | .met f x=>h.get? a=some (methodObj (.ref f) (.ref x))
 | .ext φ=>φ h/\(∃o,h.get? a=some o)/\∀h1 h2:Heap,φ h1->(∀o,h1.get? a=some o->h2.get? a=some o)->φ h2
def Ma(H:Hp)(h:Heap):Prop:=∀a o,H a=some o->CT P w H h a o
end
section
variable{P:Program}{w:World}{H H':Hp}{h h':Heap}{a:Addr}{o:HO}
theorem CT.lt(x:CT P w H h a o):a<h.objs.size:=by
 cases o with
 |lst xs=>obtain⟨_,_,_,_,e⟩:=x;exact lt_size e
 |tup xs=>obtain⟨_,_,_,p⟩:=x;exact p.lt
 |dK kvs=>obtain⟨_,_,_,_,o,_,_,e,_⟩:=x;exact lt_size e
 |dT kvs=>obtain⟨_,_,_,_,o,_,_,e,_⟩:=x;exact lt_size e
 |set S n=>obtain⟨o,_,_,_,e,_⟩:=x;exact lt_size e
 |ins C dx fs=>obtain⟨_,_,_,e,_⟩:=x;exact lt_size e
 |own y=>obtain⟨_,e⟩:=x;exact lt_size e
 |xd fs=>obtain⟨_,⟨_,_,_,e,_⟩,_⟩:=x;exact lt_size e
 |yZ lo hi=>obtain⟨_,_,_,e⟩:=x;exact lt_size e
 |bQ ob u=>obtain⟨e,_⟩:=x;exact lt_size e
 |YM ps=>exact lt_size (show h.get? a=some _ from x)
 |met f y=>exact lt_size (show h.get? a=some _ from x)
 |ext φ=>obtain⟨_,⟨_,e⟩,_⟩:=x;exact lt_size e
theorem Paired.uc{α β:Type}{F G:α->β->Prop}:∀{l₁:List α} {l₂:List β},Paired F l₁ l₂->(∀a b,F a b->G a b)->Paired G l₁ l₂
 |_,_,.nil,_=> .nil
 |_,_,.cons r t,f=> .cons (f _ _ r) (Paired.uc t f)
theorem CT.SU(x:CT P w H h a o)(k:∀b u,(b=a\/H b=some (.own a))->h.get? b=some u->h'.get? b=some u)
  (ho:∀b,H b=some (.own a)->H' b=some (.own a)) (ht:∀b xs,H b=some (.tup xs)->H' b=some (.tup xs)):CT P w H' h' a o:=by
 induction o with
 |lst xs=>obtain⟨z,A7,n,r,e⟩:=x;exact⟨z,A7,n,r,k _ _ (.inl rfl) e⟩
 |tup xs=>obtain⟨z,A7,r,ob,e,c⟩:=x;exact⟨z,A7,r,ob,k _ _ (.inl rfl) e,c⟩
 |dK kvs=>obtain⟨z,y,vs,r,ob,es,ep,e,c⟩:=x;exact⟨z,y,vs,r,ob,es,ep,k _ _ (.inl rfl) e,c⟩
 |dT kvs=>obtain⟨z,y,xs,r,ob,es,ep,e,c⟩:=x;exact⟨z,y,xs,Paired.uc r λp q z=>⟨z.1,ht _ _ z.2.1,z.2.2⟩,ob,es,ep,k _ _ (.inl rfl) e,c⟩
 |set S n=>obtain⟨ob,es,ep,t,e,c⟩:=x;exact⟨ob,es,ep,t,k _ _ (.inl rfl) e,c⟩
 |ins C dx fs=>obtain⟨d,z,ne,e,mA,⟨od,es,ep,e2,c⟩,r⟩:=x;exact⟨ho _ d,z,ne,k _ _ (.inl rfl) e,mA,⟨od,es,ep,k _ _ (.inr d) e2,c⟩,r⟩
 |own y=>obtain⟨ob,e⟩:=x;exact⟨ob,k _ _ (.inl rfl) e⟩
 |xd fs=>obtain⟨mA,⟨od,es,ep,e,c⟩,r⟩:=x;exact⟨mA,⟨od,es,ep,k _ _ (.inl rfl) e,c⟩,r⟩
 |yZ lo hi=>obtain⟨t,u,v,e⟩:=x;exact⟨t,u,v,k _ _ (.inl rfl) e⟩
 |bQ ob u ih=>obtain⟨e,q⟩:=x;exact⟨k _ _ (.inl rfl) e,ih q⟩
 |YM ps=>have e:h.get? a=some {cls:= .none,data:= .fields ps}:=x;show h'.get? a=some {cls:= .none,data:= .fields ps};exact k a _ (.inl rfl) e
 |met f y=>have e:h.get? a=some (methodObj (.ref f) (.ref y)):=x;show h'.get? a=some (methodObj (.ref f) (.ref y));exact k a _ (.inl rfl) e
 |ext φ=>obtain⟨p,⟨o,e⟩,st⟩:=x;exact⟨st _ _ p λo q=>k _ _ (.inl rfl) q,⟨o,k _ _ (.inl rfl) e⟩,st⟩
theorem Ma.lt(x:Ma P w H h)(e:H a=some o):a<h.objs.size:=(x a o e).lt
theorem Ma.fresh(x:Ma P w H h)(e:h.objs.size<=a):H a=none:=by
 cases q:H a with
 |none=>rfl
 |some u=>exact absurd (lt_of_lt_of_le (x.lt q) e) (Nat.lt_irrefl _)
theorem Ma.kept(x:Ma P w H h)(k:∀b u,h.get? b=some u->h'.get? b=some u):Ma P w H h':=λa o e=>(x a o e).SU (λb u _ q=>k b u q) (λ_ q=>q) λ_ _ q=>q
theorem Ma.laid(x:Ma P w H h)(k:∀b u,h.get? b=some u->h'.get? b=some u)(hp:h.objs.size<=a)(new:CT P w (upd H a o) h' a o):Ma P w (upd H a o) h':=λb u e=>by
 have hn:=x.fresh hp;by_cases hb:b=a
 ·subst hb;rw[AG] at e;cases e;exact new
 ·rw[AM hb] at e;exact(x b u e).SU (λc v _ q=>k c v q) (λc q=>by rw[AM (Ax q hn)];exact q) λc xs q=>by rw[AM (Ax q hn)];exact q
end
def Rd(H:Hp)(a:Addr)(u:HO):Prop:=H a=some u\/∃o,H a=some (.bQ o u)
theorem Rd.ok{P:Program}{w:World}{H:Hp}{h:Heap}{a:Addr}{u:HO}(r:Rd H a u)(x:Ma P w H h):CT P w H h a u:=by
 rcases r with r | ⟨o,r⟩
 ·exact x a u r
 ·obtain⟨_,q⟩:=x a _ r;exact q
def wY:Option HO->Prop
 |some (.lst _)=>True
 |some (.dK _)=>True
 |some (.dT _)=>True
 |some (.set _ _)=>True
 |some (.ins _ _ _)=>True
 |some (.ext _)=>True
 |_=>False
section
variable{P:Program}{w:World}{H:Hp}{h h':Heap}{x e:Addr}{o':HO}
theorem Ma.write(ok:Ma P w H h)(mu:wY (H x))(he:e=x\/H e=some (.own x))(k:∀b u,b≠e->h.get? b=some u->h'.get? b=some u)(heo:∃u,h'.get? e=some u)
  (new:CT P w (upd H x o') h' x o'):Ma P w (upd H x o') h':=λb u q=>by
 have nown:∀c y,H c=some (.own y)->c≠x:=λc y r z=>by subst z;rw[r] at mu;exact mu
 have ntup:∀c xs,H c=some (.tup xs)->c≠x:=λc xs r z=>by subst z;rw[r] at mu;exact mu
 by_cases hb:b=x
 ·subst hb;rw[AG] at q;cases q;exact new
 ·rw[AM hb] at q;by_cases hbe:b=e
  ·have q':H b=some (.own x):=by
    rcases he with z | z
    ·exact absurd (hbe.trans z) hb
    ·rw[hbe];exact z
   rw[q] at q';cases q';obtain⟨v,hv⟩:=heo;exact⟨v,by rw[hbe];exact hv⟩
  ·refine(ok b u q).SU (λc v hc r=>k c v ?_ r) (λc r=>by rw[AM (nown c b r)];exact r) λc xs r=>by rw[AM (ntup c xs r)];exact r
   rcases hc with rfl | hc
   ·exact hbe
   ·rintro rfl;rcases he with z | z
    ·exact nown c b hc z
    ·rw[hc] at z;cases z;exact hb rfl
end
structure Un(fs ex:List Addr)(H H':Hp)(h h':Heap):Prop where
 keep:∀b o,h.get? b=some o->H b=none->b∉fs->b∉ex->h'.get? b=some o
 slot:∀b o,h.get? b=some o->H b=none->b∈fs->b∉ex->∃sl,h'.get? b=some {o with slots:=sl}
 free:∀b o,h.get? b=some o->H b=none->b∉ex->H' b=none
 there:∀b o,h.get? b=some o->b∉ex->∃o',h'.get? b=some o'
 YR:∀b xs,H b=some (.tup xs)->H' b=some (.tup xs)
 Xj:∀b o u,H b=some (.bQ o u)->H' b=some (.bQ o u)
 Xk:∀b ps,H b=some (.YM ps)->∃more,H' b=some (.YM (ps++more))
section
variable{fs fs' ex ex':List Addr}{H H1 H2:Hp}{h h1 h2 h':Heap}{a x e:Addr}{o:HO}
theorem Un.any(u:Un fs ex H H1 h h1){b:Addr}{ob:Obj}(q:h.get? b=some ob)(n:H b=none)(hx:b∉ex):∃sl,h1.get? b=some {ob with slots:=sl}:=by
 by_cases hb:b∈fs
 ·exact u.slot b ob q n hb hx
 ·exact⟨ob.slots,u.keep b ob q n hb hx⟩
theorem Un.kept(k:∀b u,h.get? b=some u->h'.get? b=some u):Un fs ex H H h h':=
 ⟨λb ob q _ _ _=>k b ob q,λb ob q _ _ _=>⟨ob.slots,k b ob q⟩,λ_ _ _ n _=>n,λb ob q _=>⟨ob,k b ob q⟩,λ_ _ q=>q,λ_ _ _ q=>q,λ_ ps q=>⟨#[],by rw[q];simp⟩⟩
theorem Un.refl:Un fs ex H H h h:=Un.kept λ_ _ q=>q
theorem Un.laid(k:∀b u,h.get? b=some u->h'.get? b=some u)(hp:h.objs.size<=a)(hn:H a=none):Un fs ex H (upd H a o) h h' where
 keep:=λb u q _ _ _=>k b u q
 slot:=λb u q _ _ _=>⟨u.slots,k b u q⟩
 free:=λb u q n _=>by rw[AM (ne_of_lt (lt_of_lt_of_le (lt_size q) hp))];exact n
 there:=λb u q _=>⟨u,k b u q⟩
 YR:=λb xs q=>by rw[AM (Ax q hn)];exact q
 Xj:=λb u xs q=>by rw[AM (Ax q hn)];exact q
 Xk:=λb ps q=>⟨#[],by rw[AM (Ax q hn),q];simp⟩
theorem Un.write(mu:wY (H x))(he:e=x\/H e=some (.own x))(k:∀b u,b≠e->h.get? b=some u->h'.get? b=some u)(heo:∃u,h'.get? e=some u):Un fs ex H (upd H x o) h h':=by
 have hx:∀b,H b=none->b≠x:=λb n z=>by subst z;rw[n] at mu;exact mu
 have hb:∀b,H b=none->b≠e:=λb n z=>by
  subst z;rcases he with r | r
  ·exact hx b n r
  ·rw[n] at r;cases r
 have hm:∀b u,H b=some u->¬wY (some u)->b≠x:=λb u q nm z=>by subst z;rw[q] at mu;exact nm mu
 refine⟨λb u q n _ _=>k b u (hb b n) q,λb u q n _ _=>⟨u.slots,k b u (hb b n) q⟩,λb u q n _=>by rw[AM (hx b n)];exact n,λb u q _=> ?_,
  λb xs q=>by rw[AM (hm b _ q λz=>z)];exact q,λb u xs q=>by rw[AM (hm b _ q λz=>z)];exact q,λb ps q=>⟨#[],by rw[AM (hm b _ q λz=>z),q];simp⟩⟩
 by_cases hbe:b=e
 ·subst hbe;exact heo
 ·exact⟨u,k b u hbe q⟩
end
def nu(h:Heap)(H:Hp):List Addr:=(List.range h.objs.size).filter λa=>(H a).isSome
def aN(h:Heap)(H:Hp):Heap:=hideAll h (nu h H)
theorem mX(h:Heap)(H:Hp):(aN h H).objs.size=h.objs.size:=PySem.W.hideAll_size _ _
theorem pb{h:Heap}{H:Hp}{b:Addr}{o:Obj}(e:h.get? b=some o)(n:H b=none):(aN h H).get? b=some o:=
 hideAll_get _ e λhm=>by have q:(H b).isSome=true:=(mem_filter.mp hm).2;rw[n] at q;simp at q
theorem rZ{h:Heap}{H:Hp}{b:Addr}{o:Obj}(e:(aN h H).get? b=some o):h.get? b=some o/\H b=none:=by
 have e':h.get? b=some o:=of_hideAll (nu h H) e;refine⟨e',?_⟩;cases q:H b with
 |none=>rfl
 |some x=>have hm:b∈nu h H:=mem_filter.mpr ⟨mem_range.mpr (lt_size e'),by simp[q]⟩;have z:(aN h H).get? b=none:=hideAll_none (nu h H) hm;rw[z] at e;cases e
end L2
namespace L2
open PySem PySem.Spec PyProof.Rows
structure Mod(K:Frag)(mg:Str->Option Value)(AJ:Heap):Prop where
 tN:K.In AJ
 glob:AJ.Ns mainGlobals mg
 blt:∃mb,AJ.Ns builtinsNs mb/\∀x:Str,x≠ "__name__"->mb x=bootBuiltins x
 nolimit:AJ.NoLimit
structure Cx where
 prog:Program
 w:World
 K:Frag
 mg:Str->Option Value
 AJ:Heap
 A:Around
 N:List Str
 Kc:Shared
 YN:Hp
 env:Env
 Ai:List Env
 stack:List Env
 ex:List Addr
 fn:Str->Bool
 calm:Bool
 pn:List (Addr×Obj)
 xe:Value->Shared->Prop
def aH(l:List Env):List Addr:=l.filterMap (·.frame)
abbrev Cx.fs(X:Cx):List Addr:=aH X.Ai
def wZ(sc:Scope)(x:Str):Prop:=sc.names.lookup x=some .local\/sc.names.lookup x=some .cell\/sc.names.lookup x=some .free
def Loc(sc:Scope)(x:Str):Prop:=sc.names.lookup x=some .local\/sc.names.lookup x=some .cell
def Look(env:Env)(h:Heap)(m:Str->Option Value)(x:Str)(u:Value):Prop:=
 (env.kindOf x=some .local/\m x=some u)\/((env.kindOf x=some .cell\/env.kindOf x=some .free)/\∃c,env.cells.lookup x=some c/\h.IsCell c (some u))
structure Cx.Ok(X:Cx):Prop where
 mod:Mod X.K X.mg X.AJ
 kind:X.env.scope.kind= .function
 glob:X.env.globals=mainGlobals
 blt:X.env.builtins=builtinsNs
 above:X.Kc.heap.objs.size<=X.env.locals
 inj:∀x y c,X.env.cells.lookup x=some c->X.env.cells.lookup y=some c->x=y
 has:∀x,(X.env.kindOf x=some .cell\/X.env.kindOf x=some .free)->∃c,X.env.cells.lookup x=some c
 rH:∀x c,X.fn x=true->X.env.cells.lookup x=some c->X.Kc.heap.objs.size<=c
 hd:X.calm=true->X.A.handled=none
 frames:X.A.frames=some X.stack
 tO:X.stack=X.Ai\/(X.stack=X.env::X.Ai/\X.env.frame=some X.env.locals)
 tP:∀b∈X.ex,b≠X.env.locals/\∀x c,X.env.cells.lookup x=some c->c≠b
 bs:∀b o,X.AJ.get? b=some o->X.Kc.heap.get? b=some o/\X.YN b=none
 iQ:X.AJ.objs.size<=X.Kc.heap.objs.size
 dA:∀b o,X.AJ.get? b=some o->b∉X.ex
 dB:∀b∈X.ex,b∉X.fs
 OO:X.Kc.heap.FunFrames X.AJ X.Ai
 iT:∀b∈X.fs,X.YN b=none
structure Inv(X:Cx)(AF:List (Addr×Obj))(σ:List (Option V))(H:Hp)(s:Shared):Prop where
 ok:X.Ok
 os:s.os=X.Kc.os
 bare:AllBare s.gens
 AJ:Un X.fs X.ex X.YN H X.Kc.heap s.heap
 loc:∃m,s.heap.Ns X.env.locals m/\∀(i:Nat) (x:Str) (v:V),X.N[i]?=some x->σ[i]?=some (some v)->wZ X.env.scope x->∃u,BI v u/\Look X.env s.heap m x u
 cell:∀x c,X.env.cells.lookup x=some c->∃v,s.heap.IsCell c v
 free:H X.env.locals=none
 Hh:∀x c,X.env.cells.lookup x=some c->H c=none
 pin:∀p∈X.pn++AF,s.heap.get? p.1=some p.2/\H p.1=none/\p.1≠X.env.locals/\p.1∉X.fs/\∀v,p.2.data≠ .cell v
 BL:Ma X.prog X.w H s.heap
 len:σ.length=X.N.length
section
variable{X:Cx}{AF:List (Addr×Obj)}{σ:List (Option V)}{H H':Hp}{s:Shared}{h':Heap}
theorem Cx.Ok.yn(ok:X.Ok){b:Addr}{o:Obj}(e:X.AJ.get? b=some o):b∉X.fs:=λhb=>by have:=(ok.OO.mem hb).1;rw[e] at this;cases this
theorem Inv.bs(I:Inv X AF σ H s):∀b o,X.AJ.get? b=some o->s.heap.get? b=some o/\H b=none:=λb o e=>⟨I.AJ.keep b o (I.ok.bs b o e).1 (I.ok.bs b o e).2 (I.ok.yn e) (I.ok.dA b o e),I.AJ.free b o (I.ok.bs b o e).1 (I.ok.bs b o e).2 (I.ok.dA b o e)⟩
theorem Inv.bk(I:Inv X AF σ H s):∀b o,X.AJ.get? b=some o->s.heap.get? b=some o:=λb o e=>(I.bs b o e).1
theorem Inv.mod(I:Inv X AF σ H s):Mod X.K X.mg X.AJ:=I.ok.mod
theorem Inv.Xf(I:Inv X AF σ H s):X.K.In s.heap:=I.ok.mod.tN.keeps I.bk
theorem Inv.lt(I:Inv X AF σ H s):X.env.locals<s.heap.objs.size:=let ⟨_,hn,_⟩:=I.loc;hn.lt
theorem Inv.sz(I:Inv X AF σ H s):X.Kc.heap.objs.size<=s.heap.objs.size:=Nat.le_trans I.ok.above (Nat.le_of_lt I.lt)
theorem Inv.ud(I:Inv X AF σ H s){a:Addr}(h:s.heap.objs.size<=a):a∉X.fs:=λhb=>by obtain⟨_,o,ho,_⟩:=I.ok.OO.mem hb;exact absurd (lt_of_lt_of_le (lt_size ho) (Nat.le_trans I.sz h)) (Nat.lt_irrefl _)
theorem Inv.tQ(I:Inv X AF σ H s):∀x c,X.env.cells.lookup x=some c->c≠X.env.locals:=λx c e z=>by obtain⟨v,o,ho,hd⟩:=I.cell x c e;obtain⟨m,⟨o',es,ep,ho',hd',_⟩,_⟩:=I.loc;rw[z,ho'] at ho;cases ho;rw[hd'] at hd;cases hd
theorem Inv.OO(I:Inv X AF σ H s):s.heap.FunFrames X.AJ X.Ai:=by
 have all:∀(l:List Env),(∀b∈aH l,b∈X.fs)->X.Kc.heap.FunFrames X.AJ l->s.heap.FunFrames X.AJ l:=by
  intro l;induction l with
  |nil=>intro _ _;trivial
  |cons env r ih=>intro hs hl;obtain⟨hk,⟨L,o,hf,hn,ho,hd⟩,hr⟩:=hl;have hL:L∈X.fs:=hs L (by unfold aH;rw[filterMap_cons,hf];exact mem_cons_self);obtain⟨sl,e⟩:=I.AJ.slot L o ho (I.ok.iT L hL) hL λz=>I.ok.dB L z hL;exact⟨hk,⟨L,_,hf,hn,e,hd⟩,ih (λb hb=>hs b (by unfold aH;rw[filterMap_cons,hf];exact mem_cons_of_mem _ hb)) hr⟩
 exact all X.Ai (λ_ hb=>hb) I.ok.OO
theorem Inv.stack(I:Inv X AF σ H s):s.heap.FunFrames X.AJ X.stack:=by
 rcases I.ok.tO with e | ⟨e,hf⟩
 ·rw[e];exact I.OO
 ·rw[e];obtain⟨m,hn,_⟩:=I.loc;refine .cons (by rw[I.ok.kind];decide) hf hn ?_ I.OO;exact Heap.get?_none_of_le (Nat.le_trans I.ok.iQ I.ok.above)
theorem Inv.iq(I:Inv X AF σ H s):∀b∈aH X.stack,b∈X.env.locals::X.fs:=λb hb=>by
 rcases I.ok.tO with e | ⟨e,hf⟩
 ·rw[e] at hb;exact mem_cons_of_mem _ hb
 ·rw[e] at hb;unfold aH at hb;rw[filterMap_cons,hf] at hb;exact hb
theorem Inv.dX(I:Inv X AF σ H s):∀b∈aH X.stack,H b=none:=λb hb=>by
 rcases mem_cons.mp (I.iq b hb) with e | hb
 ·rw[e];exact I.free
 ·obtain⟨_,o,ho,_⟩:=I.ok.OO.mem hb;exact I.AJ.free b o ho (I.ok.iT b hb) λz=>I.ok.dB b z hb
theorem Inv.step{g':Array GenState}{t':Nat}{d':Drawn}{ch:List Addr}(I:Inv X AF σ H s)
  (hch:∀b∈ch,(b∈X.ex\/X.Kc.heap.objs.size<=b)/\b≠X.env.locals/\(∀x c,X.env.cells.lookup x=some c->c≠b)/\∀p∈X.pn++AF,p.1≠b)
  (keep:∀b o,b≠X.env.locals->b∉X.fs->b∉ch->s.heap.get? b=some o->H b=none->h'.get? b=some o)
  (slot:∀b o,b≠X.env.locals->b∈X.fs->b∉ch->s.heap.get? b=some o->H b=none->∃sl,h'.get? b=some {o with slots:=sl}) (free:∀b o,b∉ch->s.heap.get? b=some o->H b=none->H' b=none)
  (there:∀b o,b∉ch->s.heap.get? b=some o->∃o',h'.get? b=some o')
  (YR:∀b xs,H b=some (.tup xs)->H' b=some (.tup xs)) (Xj:∀b o u,H b=some (.bQ o u)->H' b=some (.bQ o u)) (Xk:∀b ps,H b=some (.YM ps)->∃more,H' b=some (.YM (ps++more)))
  (ns:∀m,s.heap.Ns X.env.locals m->h'.Ns X.env.locals m) (BL:Ma X.prog X.w H' h') (hg:AllBare g'):
  Inv X AF σ H' {s with heap:=h',gens:=g',drawn:=d',toks:=t'}:=by
 have neL:∀b o,X.Kc.heap.get? b=some o->b≠X.env.locals:=λb o e=>ne_of_lt (lt_of_lt_of_le (lt_size e) I.ok.above);have neC:∀b o,X.Kc.heap.get? b=some o->b∉X.ex->b∉ch:=λb o e hx hb=>by
  rcases(hch b hb).1 with z | z
  ·exact hx z
  ·exact absurd (lt_of_lt_of_le (lt_size e) z) (Nat.lt_irrefl _)
 have cellK:∀x c,X.env.cells.lookup x=some c->∀v,s.heap.IsCell c v->h'.IsCell c v:=λx c e v ⟨o,ho,hd⟩=>by
  have nch:c∉ch:=λz=>(hch c z).2.2.1 x c e rfl;by_cases hc:c∈X.fs
  ·obtain⟨sl,q⟩:=slot c o (I.tQ x c e) hc nch ho (I.Hh x c e);exact⟨_,q,hd⟩
  ·exact⟨o,keep c o (I.tQ x c e) hc nch ho (I.Hh x c e),hd⟩
 refine⟨I.ok,I.os,hg,⟨λb o e n hb hx=> ?_,λb o e n hb hx=> ?_,λb o e n hx=> ?_,λb o e hx=> ?_,λb xs e=>YR b xs (I.AJ.YR b xs e),λb o xs e=>Xj b o xs (I.AJ.Xj b o xs e),λb ps e=> ?_⟩,?_,λx c e=> ?_,?_,λx c e=> ?_,λp hp=> ?_,BL,I.len⟩
 ·exact keep b o (neL b o e) hb (neC b o e hx) (I.AJ.keep b o e n hb hx) (I.AJ.free b o e n hx)
 ·obtain⟨sl,e1⟩:=I.AJ.slot b o e n hb hx;obtain⟨sl',e2⟩:=slot b _ (neL b o e) hb (neC b o e hx) e1 (I.AJ.free b o e n hx);exact⟨sl',e2⟩
 ·obtain⟨o',e1⟩:=I.AJ.there b o e hx;exact free b o' (neC b o e hx) e1 (I.AJ.free b o e n hx)
 ·obtain⟨o',e1⟩:=I.AJ.there b o e hx;exact there b o' (neC b o e hx) e1
 ·obtain⟨m1,e1⟩:=I.AJ.Xk b ps e;obtain⟨m2,e2⟩:=Xk b _ e1;exact⟨m1++m2,by rw[e2,Array.append_assoc]⟩
 ·obtain⟨m,hn,hl⟩:=I.loc;refine⟨m,ns m hn,λi x v e1 e2 e3=> ?_⟩;obtain⟨u,r,l⟩:=hl i x v e1 e2 e3;refine⟨u,r,?_⟩;rcases l with l | ⟨k,c,e,z⟩
  ·exact .inl l
  ·exact .inr ⟨k,c,e,cellK x c e _ z⟩
 ·obtain⟨v,z⟩:=I.cell x c e;exact⟨v,cellK x c e v z⟩
 ·obtain⟨m,⟨o,_,_,ho,_⟩,_⟩:=I.loc;exact free _ o (λz=>(hch _ z).2.1 rfl) ho I.free
 ·obtain⟨v,o,ho,hd⟩:=I.cell x c e;exact free c o (λz=>(hch c z).2.2.1 x c e rfl) ho (I.Hh x c e)
 ·obtain⟨e,n,ne,nf,d⟩:=I.pin p hp;have nch:p.1∉ch:=λz=>(hch p.1 z).2.2.2 p hp rfl;exact⟨keep p.1 p.2 ne nf nch e n,free p.1 p.2 nch e n,ne,nf,d⟩
theorem Inv.un{t':Nat}(I:Inv X AF σ H s)(u:Un X.fs [] H H' s.heap h')(BL:Ma X.prog X.w H' h'):Inv X AF σ H' {s with heap:=h',toks:=t'}:=by
 obtain⟨m,⟨o,es,ep,ho,r⟩,_⟩:=id I.loc;obtain⟨sl,hL⟩:=u.any ho I.free (by simp);exact I.step (g':=s.gens) (d':=s.drawn) (ch:=[]) (λ_ z=>nomatch z) (λb o _ hb _ e n=>u.keep b o e n hb (by simp)) (λb o _ hb _ e n=>u.slot b o e n hb (by simp)) (λb o _ e n=>u.free b o e n (by simp)) (λb o _ e=>u.there b o e (by simp)) u.YR u.Xj u.Xk (λm' hm=>by obtain⟨o',es',ep',ho',r'⟩:=hm;rw[ho] at ho';cases ho';exact⟨_,es',ep',hL,r'⟩) BL I.bare
theorem Inv.call{g':Array GenState}{t':Nat}{d':Drawn}{ch:List Addr}(I:Inv X AF σ H s)(u:Un (aH X.stack) ch H H' s.heap h')(BL:Ma X.prog X.w H' h')(hg:AllBare g')
  (hch:∀b∈ch,(b∈X.ex\/X.Kc.heap.objs.size<=b)/\b≠X.env.locals/\(∀x c,X.env.cells.lookup x=some c->c≠b)/\∀p∈X.pn++AF,p.1≠b):
  Inv X AF σ H' {s with heap:=h',gens:=g',drawn:=d',toks:=t'}:=by
 obtain⟨m,⟨o,es,ep,ho,r⟩,_⟩:=id I.loc;obtain⟨sl,hL⟩:=u.any ho I.free λz=>(hch _ z).2.1 rfl;exact I.step (ch:=ch) hch (λb o hL hb hc e n=>u.keep b o e n (λz=>(mem_cons.mp (I.iq b z)).elim hL hb) hc) (λb o _ _ hc e n=>u.any e n hc) (λb o hc e n=>u.free b o e n hc) (λb o hc e=>u.there b o e hc) u.YR u.Xj u.Xk (λm' hm=>by obtain⟨o',es',ep',ho',r'⟩:=hm;rw[ho] at ho';cases ho';exact⟨_,es',ep',hL,r'⟩) BL hg
theorem Inv.turned{t':Nat}{it:Addr}(I:Inv X AF σ H s)(k:∀b o,b≠it->s.heap.get? b=some o->h'.get? b=some o)(hn:H it=none)(hL:it≠X.env.locals)
  (h1:it∈X.ex\/X.Kc.heap.objs.size<=it) (h2:∀x c,X.env.cells.lookup x=some c->c≠it) (h3:∀p∈X.pn++AF,p.1≠it):Inv X AF σ H {s with heap:=h',toks:=t'}:=by
 have nit:∀b u,H b=some u->b≠it:=λb u e z=>by rw[z,hn] at e;cases e
 refine I.step (g':=s.gens) (d':=s.drawn) (ch:=[it]) (λb hb=> ?_) (λb o _ _ hc e _=>k b o (λz=>hc (by simp[z])) e) (λb o _ _ hc e _=>⟨o.slots,k b o (λz=>hc (by simp[z])) e⟩) (λ_ _ _ _ n=>n)
  (λb o hc e=>⟨o,k b o (λz=>hc (by simp[z])) e⟩) (λ_ _ e=>e) (λ_ _ _ e=>e) (λb ps e=>⟨#[],by rw[e];simp⟩) (λm hm=> ?_) (λb u e=> ?_) I.bare
 ·have e:b=it:=by simpa using hb
  subst e;exact⟨h1,hL,h2,h3⟩
 ·obtain⟨o,es,ep,ho,r⟩:=hm;exact⟨o,es,ep,k _ o (Ne.symm hL) ho,r⟩
 ·refine(I.BL b u e).SU (λc v hc q=>k c v ?_ q) (λ_ q=>q) λ_ _ q=>q;rcases hc with z | z
  ·rw[z];exact nit b u e
  ·exact nit c _ z
theorem Inv.tok(I:Inv X AF σ H s)(t:Nat):Inv X AF σ H {s with toks:=t}:=I.un (h':=s.heap) (t':=t) Un.refl I.BL
theorem Inv.kept{t':Nat}(I:Inv X AF σ H s)(k:∀b u,s.heap.get? b=some u->h'.get? b=some u):Inv X AF σ H {s with heap:=h',toks:=t'}:=I.un (Un.kept k) (I.BL.kept k)
theorem Inv.laid{a:Addr}{o:HO}{t':Nat}(I:Inv X AF σ H s)(k:∀b u,s.heap.get? b=some u->h'.get? b=some u)(hp:s.heap.objs.size<=a)(new:CT X.prog X.w (upd H a o) h' a o):
  Inv X AF σ (upd H a o) {s with heap:=h',toks:=t'}:=I.un (Un.laid k hp (I.BL.fresh hp)) (I.BL.laid k hp new)
theorem Inv.write{x e:Addr}{o:HO}{t':Nat}(I:Inv X AF σ H s)(mu:wY (H x))(he:e=x\/H e=some (.own x))(k:∀b u,b≠e->s.heap.get? b=some u->h'.get? b=some u)(heo:∃u,h'.get? e=some u)
  (new:CT X.prog X.w (upd H x o) h' x o):Inv X AF σ (upd H x o) {s with heap:=h',toks:=t'}:=I.un (Un.write mu he k heo) (I.BL.write mu he k heo new)
theorem Inv.weak{σ':List (Option V)}(I:Inv X AF σ H s)(hl:σ'.length=σ.length)(w:∀(i:Nat) v,σ'[i]?=some (some v)->σ[i]?=some (some v)):Inv X AF σ' H s:=
 ⟨I.ok,I.os,I.bare,I.AJ,let ⟨m,hn,hl'⟩:=I.loc;⟨m,hn,λi x v e1 e2 e3=>hl' i x v e1 (w i v e2) e3⟩,I.cell,I.free,I.Hh,I.pin,I.BL,hl.trans I.len⟩
theorem Inv.Ue{pins':List (Addr×Obj)}(I:Inv X AF σ H s)(h:∀p∈pins',s.heap.get? p.1=some p.2/\H p.1=none/\p.1≠X.env.locals/\p.1∉X.fs/\∀v,p.2.data≠ .cell v):Inv X pins' σ H s:=
 ⟨I.ok,I.os,I.bare,I.AJ,I.loc,I.cell,I.free,I.Hh,λp hp=>(mem_append.mp hp).elim (λz=>I.pin p (mem_append_left _ z)) (h p),I.BL,I.len⟩
theorem Yv{N:List Str}(hN:N.Nodup){i j:Nat}{x:Str}(a:N[i]?=some x)(b:N[j]?=some x):i=j:=by obtain⟨h1,e1⟩:=List.getElem?_eq_some_iff.mp a;obtain⟨h2,e2⟩:=List.getElem?_eq_some_iff.mp b;exact(List.getElem_inj hN).mp (e1.trans e2.symm)
theorem bZ{M:Model}{A:Around}{E:Value->Shared->Prop}{i:Nat}{x:Str}{v:V}{u:Value}{Q:Unit->Shared->Prop}(I:Inv X AF σ H s)(hN:X.N.Nodup)(hi:X.N[i]?=some x)(hx:Loc X.env.scope x)(r:BI v u)
  (h:∀s',Inv X AF (σ.set i (some v)) H s'->(∃a,Heap.SameBut a s.heap s'.heap/\(a=X.env.locals\/X.env.cells.lookup x=some a))->Q () s') (hf:X.fn x=true\/X.env.scope.names.lookup x=some .local:=by first | exact .inl rfl | exact .inr rfl | assumption):wpAny M A (storeName X.env x u) Q E s:=by
 obtain⟨m,hn,hl⟩:=id I.loc;have hcls:(X.env.scope.kind== .class || (X.env.scope.kind== .module && X.env.locals !=X.env.globals))=false:=by rw[I.ok.kind];rfl
 have hiσ:i<σ.length:=by rw[I.len];exact(List.getElem?_eq_some_iff.mp hi).1
 have tQ:=I.tQ;have tracked:∀{a:Addr} {h':Heap},(∃o,s.heap.get? a=some o/\H a=none)->Heap.SameBut a s.heap h'->Ma X.prog X.w H h':=λ{a h'} ha hs b ob e=>by
  obtain⟨_,_,hfree⟩:=ha;refine(I.BL b ob e).SU (λc w' hc q=>(hs.2 c ?_).trans q) (λ_ q=>q) λ_ _ q=>q;rintro rfl;rcases hc with rfl | hc
  ·rw[hfree] at e;cases e
  ·rw[hfree] at hc;cases hc
 rcases hx with hk | hk
 ·refine wpAny_storeName_local hk hn (λh' hn' hs=> ?_) hcls;obtain⟨oL,_,_,hoL,_⟩:=id hn;refine h _ ⟨I.ok,I.os,I.bare,⟨λb o e n hb hx=> ?_,λb o e n hb hx=> ?_,I.AJ.free,λb o e hx=> ?_,I.AJ.YR,I.AJ.Xj,I.AJ.Xk⟩,⟨_,hn',λj y v' e1 e2 e3=> ?_⟩,λy c e=> ?_,I.free,I.Hh,λp hp=> ?_,tracked ⟨oL,hoL,I.free⟩ hs,by simpa using I.len⟩ ⟨_,hs,.inl rfl⟩
  ·exact(hs.2 b (ne_of_lt (lt_of_lt_of_le (lt_size e) I.ok.above))).trans (I.AJ.keep b o e n hb hx)
  ·obtain⟨sl,e1⟩:=I.AJ.slot b o e n hb hx;exact⟨sl,(hs.2 b (ne_of_lt (lt_of_lt_of_le (lt_size e) I.ok.above))).trans e1⟩
  ·obtain⟨o',e1⟩:=I.AJ.there b o e hx;exact⟨o',(hs.2 b (ne_of_lt (lt_of_lt_of_le (lt_size e) I.ok.above))).trans e1⟩
  ·by_cases hj:j=i
   ·subst hj;rw[hi] at e1;cases e1;rw[getElem?_set_self hiσ] at e2;cases e2;exact⟨u,r,.inl ⟨hk,by simp⟩⟩
   ·rw[getElem?_set_ne (Ne.symm hj)] at e2;obtain⟨u',r',q⟩:=hl j y v' e1 e2 e3;refine⟨u',r',?_⟩;rcases q with⟨k,e⟩ | ⟨k,c,e,z⟩
    ·refine .inl ⟨k,?_⟩;have:y≠x:=λe=>hj (Yv hN e1 (e ▸ hi));simp[this,e]
    ·exact .inr ⟨k,c,e,z.sameBut hs (tQ y c e)⟩
  ·obtain⟨w',z⟩:=I.cell y c e;exact⟨w',z.sameBut hs (tQ y c e)⟩
  ·obtain⟨e,n,ne,nf,d⟩:=I.pin p hp;exact⟨(hs.2 p.1 ne).trans e,n,ne,nf,d⟩
 ·have hfn:X.fn x=true:=by
   rcases hf with z | z
   ·exact z
   ·rw[z] at hk;cases hk
  obtain⟨c,hc⟩:=I.ok.has x (.inl hk);obtain⟨w',z⟩:=I.cell x c hc;refine wpAny_storeName_cell I.ok.kind hk hc z (λh' hc' hs=> ?_);obtain⟨oc,hoc,hocd⟩:=id z;refine h {s with heap:=h'} ⟨I.ok,I.os,I.bare,⟨λb o e n hb hx=> ?_,λb o e n hb hx=> ?_,I.AJ.free,λb o e hx=> ?_,I.AJ.YR,I.AJ.Xj,I.AJ.Xk⟩,⟨m,hn.sameBut hs (Ne.symm (tQ x c hc)),λj y v' e1 e2 e3=> ?_⟩,λy c' e=> ?_,I.free,I.Hh,λp hp=> ?_,tracked ⟨oc,hoc,I.Hh x c hc⟩ hs,by simpa using I.len⟩ ⟨c,hs,.inr hc⟩
  ·exact(hs.2 b (ne_of_lt (lt_of_lt_of_le (lt_size e) (I.ok.rH x c hfn hc)))).trans (I.AJ.keep b o e n hb hx)
  ·obtain⟨sl,e1⟩:=I.AJ.slot b o e n hb hx;exact⟨sl,(hs.2 b (ne_of_lt (lt_of_lt_of_le (lt_size e) (I.ok.rH x c hfn hc)))).trans e1⟩
  ·obtain⟨o',e1⟩:=I.AJ.there b o e hx;exact⟨o',(hs.2 b (ne_of_lt (lt_of_lt_of_le (lt_size e) (I.ok.rH x c hfn hc)))).trans e1⟩
  ·by_cases hj:j=i
   ·subst hj;rw[hi] at e1;cases e1;rw[getElem?_set_self hiσ] at e2;cases e2;exact⟨u,r,.inr ⟨.inl hk,c,hc,hc'⟩⟩
   ·rw[getElem?_set_ne (Ne.symm hj)] at e2;obtain⟨u',r',q⟩:=hl j y v' e1 e2 e3;refine⟨u',r',?_⟩;rcases q with q | ⟨k,c',e,z'⟩
    ·exact .inl q
    ·refine .inr ⟨k,c',e,z'.sameBut hs ?_⟩;rintro rfl;exact hj (Yv hN e1 (I.ok.inj _ _ _ e hc ▸ hi))
  ·by_cases hcc:c'=c
   ·subst hcc;exact⟨_,hc'⟩
   ·obtain⟨w2,z2⟩:=I.cell y c' e;exact⟨w2,z2.sameBut hs hcc⟩
  ·obtain⟨e,n,ne,nf,d⟩:=I.pin p hp;refine⟨(hs.2 p.1 ?_).trans e,n,ne,nf,d⟩;intro q;rw[q,hoc] at e;have q':oc=p.2:=Option.some.inj e;exact d w' (by rw[<-q'];exact hocd)
theorem Uq{M:Model}{A:Around}{E:Value->Shared->Prop}{i:Nat}{x:Str}{v:V}{u:Value}{Q:Unit->Shared->Prop}(I:Inv X AF σ H s)(hN:X.N.Nodup)(hi:X.N[i]?=some x)(hx:Loc X.env.scope x)(r:BI v u)
  (h:∀s',Inv X AF (σ.set i (some v)) H s'->Q () s') (hf:X.fn x=true\/X.env.scope.names.lookup x=some .local:=by first | exact .inl rfl | exact .inr rfl | assumption):wpAny M A (storeName X.env x u) Q E s:=
 bZ I hN hi hx r (λs' I' _=>h s' I') hf
theorem Inv.kG{s':Shared}{ch:List Addr}(I:Inv X AF σ H s)(ho:s'.os=s.os)(u:Un (aH X.stack) ch H H' s.heap s'.heap)(BL:Ma X.prog X.w H' s'.heap)(hg:AllBare s'.gens)
  (hch:∀b∈ch,(b∈X.ex\/X.Kc.heap.objs.size<=b)/\b≠X.env.locals/\(∀x c,X.env.cells.lookup x=some c->c≠b)/\∀p∈X.pn++AF,p.1≠b):Inv X AF σ H' s':=by
 obtain⟨h',g',d',t',o'⟩:=s';have e:o'=s.os:=ho;subst e;exact I.call (g':=g') (t':=t') (d':=d') u BL hg hch
end
abbrev XK:=Value->Option Addr->Hp->Prop
abbrev St:=List (Option V)
abbrev VK:=V->Hp->Prop
abbrev TE:=St->Hp->VK->Prop
abbrev TT:=St->Hp->(Bool->Hp->Prop)->Prop
abbrev TA:=St->Hp->(List V->Hp->Prop)->Prop
structure Ends where
 nx:St->Hp->Prop
 rt:VK
 bk:St->Hp->Prop:=λ_ _=>False
 ct:St->Hp->Prop:=λ_ _=>False
abbrev TS:=Ends->St->Hp->Prop
inductive EP(X:Cx)(AF:List (Addr×Obj))(σ:St)(Q:VK)(u:Value)(s':Shared):Prop | mk:∀v H',Inv X AF σ H' s'->BI v u->Q v H'->EP X AF σ Q u s'
inductive TP(X:Cx)(AF:List (Addr×Obj))(σ:St)(Q:Bool->Hp->Prop)(b:Bool)(s':Shared):Prop | mk:∀H',Inv X AF σ H' s'->Q b H'->TP X AF σ Q b s'
inductive AP(X:Cx)(AF:List (Addr×Obj))(σ:St)(Q:List V->Hp->Prop)(us:List Value)(s':Shared):Prop | mk:∀vs H',Inv X AF σ H' s'->Vals vs us->Q vs H'->AP X AF σ Q us s'
def SP(X:Cx)(AF:List (Addr×Obj))(D:Ends)(f:Flow)(s':Shared):Prop:=
 match f with
 | .next=>∃σ' H',Inv X AF σ' H' s'/\D.nx σ' H'
 | .brk=>∃σ' H',Inv X AF σ' H' s'/\D.bk σ' H'
 | .cont=>∃σ' H',Inv X AF σ' H' s'/\D.ct σ' H'
 | .ret u=>∃v σ' H',Inv X AF σ' H' s'/\BI v u/\D.rt v H'
def PE(X:Cx)(e:Expr)(t:TE):Prop:=
 ∀(AF:List (Addr×Obj)) (s:Shared) (σ:St) (H:Hp) (Q:VK),Inv X AF σ H s->t σ H Q->wpAny (model X.prog X.w) X.A (eval e X.env) (EP X AF σ Q) X.xe s
def PT(X:Cx)(e:Expr)(t:TT):Prop:=
 ∀(AF:List (Addr×Obj)) (s:Shared) (σ:St) (H:Hp) (Q:Bool->Hp->Prop),Inv X AF σ H s->t σ H Q->wpAny (model X.prog X.w) X.A (isTrue e X.env (eval e X.env)) (TP X AF σ Q) X.xe s
def PW(X:Cx)(e:Expr)(t:TT):Prop:=
 ∀(whole:Sem Value) (AF:List (Addr×Obj)) (s:Shared) (σ:St) (H:Hp) (Q:Bool->Hp->Prop),Inv X AF σ H s->t σ H Q->wpAny (model X.prog X.w) X.A (isTrue e X.env whole) (TP X AF σ Q) X.xe s
theorem PW.pt{X:Cx}{e:Expr}{t:TT}(h:PW X e t):PT X e t:=h _
def PA(X:Cx)(es:List Expr)(t:TA):Prop:=
 ∀(pos:Pos) (AF:List (Addr×Obj)) (s:Shared) (σ:St) (H:Hp) (Q:List V->Hp->Prop),Inv X AF σ H s->t σ H Q->wpAny (model X.prog X.w) X.A (spliced (backTo pos (starEach es X.env))) (AP X AF σ Q) X.xe s
def PS(X:Cx)(st:Stmt)(t:TS):Prop:=
 ∀(AF:List (Addr×Obj)) (s:Shared) (σ:St) (H:Hp) (D:Ends),Inv X AF σ H s->t D σ H->wpAny (model X.prog X.w) X.A (exec st X.env) (SP X AF D) X.xe s
def cz(X:Cx)(st:List Stmt)(t:TS):Prop:=
 ∀(AF:List (Addr×Obj)) (s:Shared) (σ:St) (H:Hp) (D:Ends),Inv X AF σ H s->t D σ H->wpAny (model X.prog X.w) X.A (execs st X.env) (SP X AF D) X.xe s
theorem CK{α:Type}{t:Sem α}{Q Q':α->Shared->Prop}{M:Model}{A:Around}{E:Value->Shared->Prop}{s:Shared}(h:wpAny M A t Q E s)(hQ:∀a s,Q a s->Q' a s):wpAny M A t Q' E s:=wpAny_mono h hQ λ_ _ x=>x
end L2
variable{X:L2.Cx}{fx m name qual x:PySem.Str}{i j kk n t' tk:Nat}{E Q:PySem.Value->PySem.Shared->Prop}{AF:List (PySem.Addr×PySem.Obj)}{s s':PySem.Shared}{σ:L2.St}{H H' H1:L2.Hp}{cd pm u v:PySem.Value}{C L T a b c d dx f fI l:PySem.Addr}{ta td te to tv:L2.TE}{tb:L2.TS}{t:L2.TA}{body e elt iter tg value:PySem.Expr}{y:L2.V}{xs ys:List L2.V}{K:PySem.W.Frag}{D:L2.Ends}{elts es ifs:List PySem.Expr}{o oe:PySem.Obj}{apos cpos p pos' tpos:PySem.Pos}{A:PySem.Around}{items vs:Array PySem.Value}{P prog:PySem.Program}{w:PySem.World}{ch fp:List PySem.Addr}{AJ h h':PySem.Heap}{A7 us:List PySem.Value}{mA mg:PySem.Str->Option PySem.Value}{env:PySem.Env}{Ai:List PySem.Env}{fd:PySem.FuncData}{N ps:List PySem.Str}{sc scope:PySem.Scope}
namespace L2
open PySem PySem.Spec PyProof.Rows
section
@[reducible] def V1(x:V)(p:Int->Prop):Prop:=match x with | .int i=>p i | _=>False
@[reducible] def aI(x:V)(p:Bool->Prop):Prop:=match x with | .bl i=>p i | _=>False
@[reducible] def c5(x:V)(p:Addr->Prop):Prop:=match x with | .ref i=>p i | _=>False
theorem oo{x:V}{p:Int->Prop}:V1 x p=∃i,x= .int i/\p i:=by cases x<;>simp[V1]
theorem oq{x:V}{p:Bool->Prop}:aI x p=∃i,x= .bl i/\p i:=by cases x<;>simp[aI]
theorem ot{x:V}{p:Addr->Prop}:c5 x p=∃i,x= .ref i/\p i:=by cases x<;>simp[c5]
theorem V1.ex{x:V}{p:Int->Prop}(h:V1 x p):∃i,x= .int i/\p i:=oo ▸ h
theorem aI.ex{x:V}{p:Bool->Prop}(h:aI x p):∃i,x= .bl i/\p i:=oq ▸ h
theorem c5.ex{x:V}{p:Addr->Prop}(h:c5 x p):∃i,x= .ref i/\p i:=ot ▸ h
@[reducible] def rJ(o:Option (Option V))(p:V->Prop):Prop:=match o with | some (some v)=>p v | _=>False
theorem ou{o:Option (Option V)}{p:V->Prop}:rJ o p=∃v,o=some (some v)/\p v:=by
 match o with
 |some (some v)=>simp only[rJ,Option.some.injEq,exists_eq_left']
 |some none=>simp[rJ]
 |none=>simp[rJ]
theorem rJ.ex{o:Option (Option V)}{p:V->Prop}(h:rJ o p):∃v,o=some (some v)/\p v:=ou ▸ h
def ue(i:Nat):TE:=λσ H Q=>rJ σ[i]? λv=>Q v H
def tC(v:V):TE:=λ_ H Q=>Q v H
theorem vC{pos:Pos}(hN:X.N[i]?=some x)(hv:wZ X.env.scope x)(hd:(x==("__debug__":Str))=false:=by decide)(hcd:(x==("__classdict__":Str))=false:=by decide):PE X (.Name x pos) (ue i):=by
 intro AF s σ H Q I h;obtain⟨v,e,h⟩:=h.ex;obtain⟨m,hn,hl⟩:=I.loc;obtain⟨u,r,l⟩:=hl i x v hN e hv;have fin:EP X AF σ Q u s:=⟨v,H,I,r,h⟩;rcases l with⟨hk,hm⟩ | ⟨hk,c,hc,hcell⟩
 ·exact wpAny_Name (wpAny_loadName_local I.ok.kind hk hn hm fin) hd
 ·rcases hk with hk | hk
  ·exact wpAny_Name (wpAny_loadName_cell I.ok.kind hk hc hcell fin) hd
  ·exact wpAny_Name (wpAny_loadName_free I.ok.kind hk hc hcell fin hcd) hd
theorem Aj{i j pos}:PE X (.Constant (.int i) j pos) (tC (.int i)):=λ_ _ _ H _ I h=>wpAny_Constant_int ⟨.int i,H,I.tok _,⟨_,rfl⟩,h⟩
theorem kH{b j pos}:PE X (.Constant (.bool b) j pos) (tC (.bl b)):=λ_ _ _ H _ I h=>Constant_bool ⟨.bl b,H,I,rfl,h⟩
theorem Ah{x j pos}:PE X (.Constant (.str x) j pos) (tC (.str x)):=λ_ _ _ H _ I h=>Calls.Constant_str ⟨.str x,H,I.tok _,⟨_,rfl⟩,h⟩
def Gl(X:Cx)(x:Str):Prop:=X.env.kindOf x=some .globalImplicit
theorem SG{pos:Pos}(I:Inv X AF σ H s)(hg:Gl X x)(hm:X.mg x=some u)(h:Q u s)
  (hd:(x==("__debug__":Str))=false:=by decide):wpAny (model X.prog X.w) X.A (eval (.Name x pos) X.env) Q E s:=
 Calls.Name_function_global I.ok.kind hg (Calls.loadGlobal_global (by rw[I.ok.glob];exact I.mod.glob.keeps I.bk) hm h) hd
theorem OQ{pos:Pos}(I:Inv X AF σ H s)(hg:Gl X x)(hm:X.mg x=none)(hv:bootBuiltins x=some u)(h:Q u s)
  (hn:x≠ "__name__":=by decide) (hd:(x==("__debug__":Str))=false:=by decide):wpAny (model X.prog X.w) X.A (eval (.Name x pos) X.env) Q E s:=by
 obtain⟨mb,h1,h2⟩:=I.mod.blt;exact Calls.Name_function_global I.ok.kind hg (Calls.loadGlobal_builtin (by rw[I.ok.glob];exact I.mod.glob.keeps I.bk) hm (by rw[I.ok.blt];exact h1.keeps I.bk) ((h2 x hn).trans hv) h) hd
theorem dY{v:V}{pos:Pos}(hg:Gl X x)(hm:X.mg x=some u)(r:BI v u)(hd:(x==("__debug__":Str))=false:=by decide):PE X (.Name x pos) (tC v):=
 λ_ _ _ H _ I h=>SG I hg hm ⟨v,H,I,r,h⟩ hd
variable{a b:Expr}{tb:TE}{pos:Pos}
def PC(X:Cx)(op:CmpOp)(a b:Expr)(t:TE):Prop:=
 ∀(AF:List (Addr×Obj)) (s:Shared) (σ:St) (H:Hp) (Q:VK),Inv X AF σ H s->t σ H Q->
  wpAny (model X.prog X.w) X.A (eval a X.env) (λv s₁=>wpAny (model X.prog X.w) X.A (eval b X.env) (λu s₂=>wpAny (model X.prog X.w) X.A (compareOp op v u) (EP X AF σ Q) X.xe s₂) X.xe s₁) X.xe s
theorem ph(b:Expr){op:CmpOp}(h:op≠ .In)(h2:op≠ .NotIn):behindInMarks op b=false:=by
 have e1:(op==CmpOp.In)=false:=by cases op<;>first | rfl | exact absurd rfl h
 have e2:(op==CmpOp.NotIn)=false:=by cases op<;>first | rfl | exact absurd rfl h2
 cases b<;>simp[behindInMarks,e1,e2]
def tB(t:TE):TT:=λσ H Q=>t σ H λx H1=>aI x λc=>Q c H1
theorem ow{op:CmpOp}{t:TE}(h:PC X op a b t)(h1:behindInMarks op b=false:=by first | exact ph _ (by decide) (by decide) | rfl):PT X (.Compare a [op] [b] pos) (tB t):=by intro AF s σ H Q I hw;refine wpAny_isTrue_Compare1 (CK (h AF s σ H _ I hw) λv s1 h1=>CK h1 λu s2 h2=>CK h2 ?_) h1;rintro c s3 ⟨x,H1,I1,r1,q1⟩;obtain⟨d,rfl,q⟩:=aI.ex q1;cases r1;exact wpAny_truthy_bool ⟨H1,I1,q⟩
theorem Mb{t:TE}(h:PE X e t)(he:∀whole,isTrue e X.env whole=(do let v<-whole;standAt e.pos;holding [v] (truthy v)):=by intro _;rfl):PT X e (tB t):=by intro AF s σ H Q I hw;refine isTrue_plain (CK (h AF s σ H _ I hw) ?_) (he _);rintro v s1 ⟨x,H1,I1,r1,q1⟩;obtain⟨d,rfl,q⟩:=aI.ex q1;cases r1;exact wpAny_truthy_bool ⟨H1,I1,q⟩
variable{tA tB':TT}{rest:List Expr}
def w9(t u:TT):TT:=λσ H Q=>t σ H λc H1=>if c=true then u σ H1 Q else Q false H1
def zH(t u:TT):TT:=λσ H Q=>t σ H λc H1=>if c=true then Q true H1 else u σ H1 Q
def xA(t:TT):TT:=λσ H Q=>t σ H λc H1=>Q (!c) H1
theorem Fo(ha:PT X a tA):PW X (.BoolOp .And [a] pos) tA:=by
 intro wh AF s σ H Q I h;refine isTrue_and (CK (ha AF s σ H Q I h) λc s1 e=> ?_);cases c with
 |true=>exact isTrue_and_nil e
 |false=>exact e
theorem QF(ha:PT X a tA):PW X (.BoolOp .Or [a] pos) tA:=by
 intro wh AF s σ H Q I h;refine isTrue_or (CK (ha AF s σ H Q I h) λc s1 e=> ?_);cases c with
 |false=>exact isTrue_or_nil e
 |true=>exact e
theorem JK(ha:PT X a tA)(hb:PW X (.BoolOp .And (b::rest) pos) tB'):PW X (.BoolOp .And (a::b::rest) pos) (w9 tA tB'):=by
 intro wh AF s σ H Q I h;refine isTrue_and (CK (ha AF s σ H _ I h) ?_);rintro c s1 ⟨H1,I1,q1⟩;cases c with
 |true=>exact hb wh AF s1 σ H1 Q I1 q1
 |false=>exact⟨H1,I1,q1⟩
theorem Wv(ha:PT X a tA)(hb:PW X (.BoolOp .Or (b::rest) pos) tB'):PW X (.BoolOp .Or (a::b::rest) pos) (zH tA tB'):=by
 intro wh AF s σ H Q I h;refine isTrue_or (CK (ha AF s σ H _ I h) ?_);rintro c s1 ⟨H1,I1,q1⟩;cases c with
 |true=>exact⟨H1,I1,q1⟩
 |false=>exact hb wh AF s1 σ H1 Q I1 q1
theorem Mc(ha:PT X a tA):PT X (.UnaryOp .Not a pos) (xA tA):=by intro AF s σ H Q I h;refine isTrue_not (wpAny_mono (ha AF s σ H (λc H1=>Q (!c) H1) I h) ?_ λ_ _ z=>z);rintro _ _ ⟨H1,I1,q1⟩;exact⟨H1,I1,q1⟩
def tY(ta tb:TE):TE:=λσ H Q=>ta σ H λx H1=>aI x λc=>if c=true then tb σ H1 Q else Q (.bl false) H1
def xB(ta tb:TE):TE:=λσ H Q=>ta σ H λx H1=>aI x λc=>if c=true then Q (.bl true) H1 else tb σ H1 Q
def tZ(ta:TE):TE:=λσ H Q=>ta σ H λx H1=>aI x λc=>Q (.bl (!c)) H1
theorem ir{op}{t:TE}(h:PE X a t):PE X (.BoolOp op [a] pos) t:=λAF s σ H Q I hw=>BoolOp_one (h AF s σ H Q I hw)
theorem iu(ha:PE X a ta)(hb:PE X (.BoolOp .And (b::rest) pos) tb):PE X (.BoolOp .And (a::b::rest) pos) (tY ta tb):=by
 intro AF s σ H Q I h;refine BoolOp_and (CK (ha AF s σ H _ I h) ?_);rintro v s1 ⟨x,H1,I1,r1,q1⟩;obtain⟨c,rfl,q1⟩:=aI.ex q1;cases r1;refine wpAny_truthy_bool ?_;cases c with
 |true=>exact hb AF s1 σ H1 Q I1 q1
 |false=>exact⟨.bl false,H1,I1,rfl,q1⟩
theorem xr(ha:PE X a ta)(hb:PE X (.BoolOp .Or (b::rest) pos) tb):PE X (.BoolOp .Or (a::b::rest) pos) (xB ta tb):=by
 intro AF s σ H Q I h;refine BoolOp_or (CK (ha AF s σ H _ I h) ?_);rintro v s1 ⟨x,H1,I1,r1,q1⟩;obtain⟨c,rfl,q1⟩:=aI.ex q1;cases r1;refine wpAny_truthy_bool ?_;cases c with
 |false=>exact hb AF s1 σ H1 Q I1 q1
 |true=>exact⟨.bl true,H1,I1,rfl,q1⟩
theorem vD(ha:PE X a ta):PE X (.UnaryOp .Not a pos) (tZ ta):=by intro AF s σ H Q I h;refine UnaryOp_ (CK (ha AF s σ H _ I h) ?_);rintro v s1 ⟨x,H1,I1,r1,q1⟩;obtain⟨c,rfl,q1⟩:=aI.ex q1;cases r1;exact not_of (wpAny_truthy_bool ⟨.bl (!c),H1,I1,rfl,q1⟩)
end
end L2
namespace L2
open PySem PySem.Spec PyProof.Rows
def A4(K:Frag)(H:Hp)(a:Addr)(xs:List V):Prop:=
 Rd H a (.lst xs)\/
  ∃(o:Obj) (A7:Array Value) (n:Nat),K.lookup a=some o/\o.cls= .type "list"/\o.dict=none/\o.data= .seq A7 n/\A7.size<=sizeLine/\Vals xs A7.toList
def YO(K:Frag)(H:Hp)(a:Addr)(xs:List V):Prop:=
 Rd H a (.tup xs)\/
  ∃(o:Obj) (A7:Array Value) (n:Nat),K.lookup a=some o/\o.cls= .type "tuple"/\o.data= .seq A7 n/\A7.size<=sizeLine/\Vals xs A7.toList
def yo:Value->Option V
 | .none=>some .Fn
 | .bool b=>some (.bl b)
 | .int i _=>some (.int i)
 | .str x _=>some (.str x)
 | .bytes b _=>some (.iP b)
 | .float b _=>some (.yR b)
 | .ref a=>some (.ref a)
 | .type n=>some (.ty n)
 |_=>none
theorem BI.abs{x:V}(r:BI x u):yo u=some x:=by
 cases x with
 |Fn=>cases r;rfl
 |bl _=>cases r;rfl
 |int _=>obtain⟨t,rfl⟩:=r;rfl
 |str _=>obtain⟨t,rfl⟩:=r;rfl
 |iP _=>obtain⟨t,rfl⟩:=r;rfl
 |yR _=>obtain⟨t,rfl⟩:=r;rfl
 |ref _=>cases r;rfl
 |ty _=>cases r;rfl
theorem BI.inj{x y:V}{u:Value}(r:BI x u)(q:BI y u):x=y:=Option.some.inj (r.abs.symm.trans q.abs)
theorem Vals.inj:∀{xs ys:List V} {us:List Value},Vals xs us->Vals ys us->xs=ys
 |_,_,_,.nil,.nil=>rfl
 |_,_,_,.cons r t,.cons r' t'=>by rw[r.inj r',Vals.inj t t']
section
theorem A4.of(h:H a=some (.lst xs)):A4 K H a xs:= .inl (.inl h)
theorem YO.of(h:H a=some (.tup xs)):YO K H a xs:= .inl (.inl h)
theorem Inv.list(I:Inv X AF σ H s)(h:A4 X.K H a xs):∃A7:List Value,Vals xs A7/\PlainL s.heap a A7.toArray/\xs.length<=sizeLine:=by
 rcases h with h | ⟨o,A7,n,hk,hc,hd,hs,hz,r⟩
 ·obtain⟨z,A7,n,r,e⟩:=h.ok I.BL;exact⟨A7,r,⟨_,n,e,rfl,rfl,rfl⟩,z⟩
 ·refine⟨A7.toList,r,⟨o,n,I.Xf a o hk,hc,hd,by simpa using hs⟩,?_⟩;have e:=r.length;simp only[Array.length_toList] at e
  lia
theorem Inv.tuple(I:Inv X AF σ H s)(h:YO X.K H a xs):∃A7:List Value,Vals xs A7/\IsTup s.heap a A7.toArray/\xs.length<=sizeLine:=by
 rcases h with h | ⟨o,A7,n,hk,hc,hs,hz,r⟩
 ·obtain⟨z,A7,r,p⟩:=h.ok I.BL;exact⟨A7,r,p,z⟩
 ·refine⟨A7.toList,r,⟨o,I.Xf a o hk,hc,n,by simpa using hs⟩,?_⟩;have e:=r.length;simp only[Array.length_toList] at e
  lia
theorem Inv.Ur(I:Inv X AF σ H s)(h:A4 X.K H a xs)(h':A4 X.K H a ys):xs=ys:=by
 obtain⟨A7,r,⟨o,n,e,_,_,d⟩,_⟩:=I.list h;obtain⟨its',r',⟨o',n',e',_,_,d'⟩,_⟩:=I.list h';rw[e] at e';cases e';rw[d] at d';injection d' with d1 _
 have:A7=its':=by simpa using congrArg Array.toList d1
 subst this;exact r.inj r'
end
abbrev Cx.aO(X:Cx)(E:Value->Shared->Prop):Cx:={X with xe:=E}
abbrev Cx.wa(X:Cx):Cx:=X.aO λ_ _=>False
theorem Cx.Ok.aO{X:Cx}(ok:X.Ok)(E:Value->Shared->Prop):(X.aO E).Ok:=
 ⟨ok.mod,ok.kind,ok.glob,ok.blt,ok.above,ok.inj,ok.has,ok.rH,ok.hd,ok.frames,ok.tO,ok.tP,ok.bs,ok.iQ,ok.dA,ok.dB,ok.OO,ok.iT⟩
theorem Cx.Ok.QG(ok:(X.aO E).Ok):X.Ok:=
 ⟨ok.mod,ok.kind,ok.glob,ok.blt,ok.above,ok.inj,ok.has,ok.rH,ok.hd,ok.frames,ok.tO,ok.tP,ok.bs,ok.iQ,ok.dA,ok.dB,ok.OO,ok.iT⟩
section
theorem Inv.aO(I:Inv X AF σ H s)(E:Value->Shared->Prop):Inv (X.aO E) AF σ H s:=⟨I.ok.aO E,I.os,I.bare,I.AJ,I.loc,I.cell,I.free,I.Hh,I.pin,I.BL,I.len⟩
theorem Inv.QG(I:Inv (X.aO E) AF σ H s):Inv X AF σ H s:=⟨I.ok.QG,I.os,I.bare,I.AJ,I.loc,I.cell,I.free,I.Hh,I.pin,I.BL,I.len⟩
theorem SP.QG{D:Ends}{f:Flow}{s':Shared}(h:SP (X.aO E) AF D f s'):SP X AF D f s':=by
 cases f with
 |next=>obtain⟨σ',H',I,q⟩:=h;exact⟨σ',H',I.QG,q⟩
 |brk=>obtain⟨σ',H',I,q⟩:=h;exact⟨σ',H',I.QG,q⟩
 |cont=>obtain⟨σ',H',I,q⟩:=h;exact⟨σ',H',I.QG,q⟩
 |ret u=>obtain⟨v,σ',H',I,r,q⟩:=h;exact⟨v,σ',H',I.QG,r,q⟩
theorem cz.wa{st:List Stmt}{t:TS}(h:cz X.wa st t):cz X st t:=λAF s σ H D I hw=>wpAny_mono (h AF s σ H D (I.aO _) hw) (λ_ _ q=>q.QG) λ_ _ z=>False.elim z
end
section
variable{st:Stmt}{rest:List Stmt}{t u:TS}{pos:Pos}
def tj:TS:=λD σ H=>D.nx σ H
def rN(t u:TS):TS:=λD σ H=>t {D with nx:=u D} σ H
theorem AX:cz X [] tj:=λ_ _ σ H _ I h=>wpAny_execs_nil ⟨σ,H,I,h⟩
theorem AD(h1:PS X st t)(h2:cz X rest u):cz X (st::rest) (rN t u):=by
 intro AF s σ H D I h;refine wpAny_execs_cons (CK (h1 AF s σ H {D with nx:=u D} I h) λf s1 q=> ?_);cases f with
 |next=>obtain⟨σ',H',I',q⟩:=q;exact h2 AF s1 σ' H' D I' q
 |ret v=>exact q
 |brk=>exact q
 |cont=>exact q
theorem AH(h1:PS X st t):cz X [st] t:=by
 intro AF s σ H D I h;refine wpAny_execs_cons (CK (h1 AF s σ H D I h) λf s1 q=> ?_);cases f with
 |next=>exact wpAny_execs_nil q
 |ret v=>exact q
 |brk=>exact q
 |cont=>exact q
theorem Inv.quiet(I:Inv X AF σ H s):interactive X.env=false:=by simp[interactive,I.ok.kind]
def tm(te:TE):TS:=λD σ H=>te σ H λ_ H1=>D.nx σ H1
theorem Au(he:PE X e te)(hs:swapsWith e none pos.line X.env=pure false:=by rfl):PS X (.Expr e pos) (tm te):=by intro AF s σ H D I h;exact wpAny_Expr_any (CK (he AF s σ H _ I h) λv s1 ⟨x,H1,I1,r1,q1⟩=>⟨σ,H1,I1,q1⟩) I.quiet hs
def xC(te:TE):TS:=λD σ H=>te σ H D.rt
theorem AO(he:PE X e te):PS X (.Return (some e) pos) (xC te):=by intro AF s σ H D I h;exact wpAny_Return_some (CK (he AF s σ H _ I h) λv s1 ⟨x,H1,I1,r1,q1⟩=>⟨x,σ,H1,I1,r1,q1⟩)
def xD(c:TT)(t u:TS):TS:=λD σ H=>c σ H λb H1=>if b=true then t D σ H1 else u D σ H1
theorem Ay{c:Expr}{a b:List Stmt}{tc:TT}(hc:PT X c tc)(ha:cz X a t)(hb:cz X b u):PS X (.If c a b pos) (xD tc t u):=by
 intro AF s σ H D I h;refine wpAny_If (CK (hc AF s σ H _ I h) ?_);rintro d s1 ⟨H1,I1,q1⟩;cases d with
 |true=>exact ha AF s1 σ H1 D I1 q1
 |false=>exact hb AF s1 σ H1 D I1 q1
def vE:TS:=λ_ _ _=>False
theorem pj:PS X st vE:=λ_ _ _ _ _ _ h=>h.elim
end
abbrev TG:=V->St->Hp->(St->Hp->Prop)->Prop
abbrev tR:=List V->St->Hp->(St->Hp->Prop)->Prop
def PG(X:Cx)(target:Expr)(t:TG):Prop:=
 ∀(AF:List (Addr×Obj)) (s:Shared) (σ:St) (H:Hp) (v:V) (u:Value) (Q:St->Hp->Prop),Inv X AF σ H s->BI v u->t v σ H Q->
  wpAny (model X.prog X.w) X.A (assign target X.env u) (λ_ s'=>∃σ' H',Inv X AF σ' H' s'/\Q σ' H') X.xe s
def wj(X:Cx)(ts:List Expr)(t:tR):Prop:=
 ∀(AF:List (Addr×Obj)) (s:Shared) (σ:St) (H:Hp) (vs:List V) (us:List Value) (Q:St->Hp->Prop),Inv X AF σ H s->Vals vs us->t vs σ H Q->
  wpAny (model X.prog X.w) X.A (assignInOrder ((assignEach ts X.env).map (·.2)) us) (λ_ s'=>∃σ' H',Inv X AF σ' H' s'/\Q σ' H') X.xe s
abbrev uf:=V->V->V->Hp->(Hp->Prop)->Prop
def xE(X:Cx)(t:uf):Prop:=
 ∀(AF:List (Addr×Obj)) (s:Shared) (σ:St) (H:Hp) (o i v:V) (ov iv u:Value) (Q:Hp->Prop),Inv X AF σ H s->BI o ov->BI i iv->BI v u->t o i v H Q->
  wpAny (model X.prog X.w) X.A (setItem ov iv u) (λ_ s'=>∃H',Inv X AF σ H' s'/\Q H') X.xe s
abbrev wk:=V->V->Hp->VK->Prop
def yS(X:Cx)(op:Operator)(t:wk):Prop:=
 ∀(AF:List (Addr×Obj)) (s:Shared) (σ:St) (H:Hp) (x y:V) (v u:Value) (Q:VK),Inv X AF σ H s->BI x v->BI y u->t x y H Q->
  wpAny (model X.prog X.w) X.A (inplaceOp op v u) (EP X AF σ Q) X.xe s
section
variable{pos:Pos}
def QD(i:Nat):TG:=λv σ H Q=>Q (σ.set i (some v)) H
theorem A8(hN:X.N.Nodup)(hi:X.N[i]?=some x)(hx:Loc X.env.scope x)(hf:X.fn x=true\/X.env.scope.names.lookup x=some .local:=by first | exact .inl rfl | exact .inr rfl | assumption):PG X (.Name x pos) (QD i):=by intro AF s σ H v u Q I r h;exact wpAny_assign_Name (Uq I hN hi hx r (λs' I'=>⟨_,H,I',h⟩) hf)
def ug:tR:=λvs σ H Q=>vs=[]/\Q σ H
def kI(t:TG)(u:tR):tR:=λvs σ H Q=>∃v r,vs=v::r/\t v σ H λσ' H'=>u r σ' H' Q
theorem Lq:wj X [] ug:=by intro AF s σ H vs us Q I r h;obtain⟨e,h⟩:=h;subst e;cases r;exact assignInOrder_nil ⟨σ,H,I,h⟩
theorem CU{t:TG}{u:tR}(h1:PG X e t)(h2:wj X es u)
  (hs:(assignEach (e::es) X.env).map (·.2)=assign e X.env::(assignEach es X.env).map (·.2):=by rfl):wj X (e::es) (kI t u):=by
 intro AF s σ H vs us Q I r h;obtain⟨v,vr,e1,h⟩:=h;subst e1;cases r with
 |cons r rr=>rw[hs];refine assignInOrder_cons (CK (h1 AF s σ H _ _ _ I r h) ?_);rintro _ s1 ⟨σ1,H1,I1,q1⟩;exact h2 AF s1 σ1 H1 _ _ Q I1 rr q1
def rO(K:Frag)(n:Nat)(t:tR):TG:=λv σ H Q=>∃a xs,v= .ref a/\YO K H a xs/\xs.length=n/\t xs σ H Q
theorem Yd{k:Nat}{t:tR}(hc:X.calm=true)(h:wj X es t)
  (hn:(assignEach es X.env).length=n:=by rfl) (hst:(assignEach es X.env).findIdx? (·.1)=none:=by rfl):PG X (.Tuple es k pos) (rO X.K n t):=by
 intro AF s σ H v u Q I r hw;obtain⟨a,xs,e1,hq,hl,hw⟩:=hw;subst e1;cases r;obtain⟨A7,rv,ht,hz⟩:=I.tuple hq;refine assign_Tuple_tuple (I.ok.hd hc) ht (by simp[hn,<-hl,rv.length]) hst λh' hx=> ?_;have I1:Inv X AF σ H {s with heap:=h'}:=I.kept (t':=s.toks) λb o e=>hx b o (ne_of_lt (lt_size e)) e;exact h AF _ σ H xs _ Q I1 (by simpa using rv) hw
def xF(to ti:TE)(t:uf):TG:=λv σ H Q=>to σ H λo H1=>ti σ H1 λi H2=>t o i v H2 λH3=>Q σ H3
theorem vF{o i:Expr}{ti:TE}{t:uf}(ho:PE X o to)(hi:PE X i ti)(hs:xE X t)
  (ha:∀v,assign (.Subscript o i pos) X.env v=(do
   let ov<-holding [v] (eval o X.env);let iv<-holding [v,ov] (eval i X.env)
   standAt pos
   holding [v,ov,iv] (setItem ov iv v)
   release [v,ov,iv] []):=by intro _;rfl):PG X (.Subscript o i pos) (xF to ti t):=by
 intro AF s σ H v u Q I r h;rw[ha];refine wpAny_bind (wpAny_holding (CK (ho AF s σ H _ I h) ?_));rintro ov s1 ⟨x,H1,I1,r1,q1⟩;refine wpAny_bind (wpAny_holding (CK (hi AF s1 σ H1 _ I1 q1) ?_));rintro iv s2 ⟨y,H2,I2,r2,q2⟩;refine wpAny_bind (wpAny_standAt (wpAny_bind (wpAny_holding (CK (hs AF s2 σ H2 x y v ov iv u _ I2 r1 r2 r q2) ?_))));rintro _ s3 ⟨H3,I3,q3⟩;exact wpAny_release ⟨σ,H3,I3,q3⟩
def oA(te:TE)(g:TG):TS:=λD σ H=>te σ H λx H1=>g x σ H1 D.nx
theorem vG{g:TG}(he:PE X e te)(hg:PG X tg g)(hs:swapsWithSole [tg] e pos.line X.env=pure false:=by rfl)(hw:swappedStores [tg] e X.env=pure none:=by rfl)
  (h1:(assignEach [tg] X.env).map (·.2)=[assign tg X.env]:=by rfl):PS X (.Assign [tg] e pos) (oA te g):=by
 intro AF s σ H D I h;refine wpAny_Assign_stores (CK (he AF s σ H _ I h) ?_) hs hw;rintro v s1 ⟨x,H1,I1,r1,q1⟩;rw[h1];exact CK (hg AF s1 σ H1 x v _ I1 r1 q1) λ_ s2 q=>q
theorem oy(hN:X.N.Nodup)(hi:X.N[i]?=some x)(hx:Loc X.env.scope x)(he:PE X e te)(hs:swapsWith e (some (.Name x pos')) pos.line X.env=pure false:=by rfl)(hf:X.fn x=true\/X.env.scope.names.lookup x=some .local:=by first | exact .inl rfl | exact .inr rfl | assumption):
  PS X (.Assign [.Name x pos'] e pos) (oA te (QD i)):=by
 intro AF s σ H D I h;refine wpAny_Assign_Name (CK (he AF s σ H _ I h) ?_) hs;rintro v s1 ⟨y,H1,I1,r1,q1⟩;exact Uq I1 hN hi hx r1 (λs2 I2=>⟨_,H1,I2,q1⟩) hf
def xG(i:Nat)(te:TE)(ti:wk):TS:=λD σ H=>rJ σ[i]? λx=>te σ H λy H1=>ti x y H1 λz H2=>D.nx (σ.set i (some z)) H2
theorem Tx{op:Operator}{ti:wk}(hN:X.N.Nodup)(hi:X.N[i]?=some x)(hx:Loc X.env.scope x)(he:PE X e te)(ho:yS X op ti)(hf:X.fn x=true\/X.env.scope.names.lookup x=some .local:=by first | exact .inl rfl | exact .inr rfl | assumption):
  PS X (.AugAssign (.Name x pos') op e pos) (xG i te ti):=by
 intro AF s σ H D I h;obtain⟨v,e1,h⟩:=h.ex;obtain⟨m,hn,hl⟩:=I.loc;have vis:wZ X.env.scope x:=by rcases hx with k | k;exact .inl k;exact .inr (.inl k)
 obtain⟨u,r,l⟩:=hl i x v hi e1 vis;refine wpAny_AugAssign_Name ?_;have go:wpAny (model X.prog X.w) X.A (eval e X.env) (λw s₂=>wpAny (model X.prog X.w) X.A (inplaceOp op u w) (λr s₃=>wpAny (model X.prog X.w) X.A (storeName X.env x r) (λ_=>SP X AF D .next) X.xe s₃) X.xe s₂) X.xe s:=by refine CK (he AF s σ H _ I h) ?_;rintro w s1 ⟨y,H1,I1,r1,q1⟩;refine CK (ho AF s1 σ H1 v y u w _ I1 r r1 q1) ?_;rintro z s2 ⟨zv,H2,I2,r2,q2⟩;exact Uq I2 hN hi hx r2 (λs3 I3=>⟨_,H2,I3,q2⟩) hf
 rcases l with⟨hk,hm⟩ | ⟨hk,c,hc,hcell⟩
 ·exact wpAny_loadName_local I.ok.kind hk hn hm go
 ·rcases hk with hk | hk
  ·exact wpAny_loadName_cell I.ok.kind hk hc hcell go
  ·rcases hx with k | k
   ·have:X.env.scope.names.lookup x=some .free:=hk;rw[k] at this;cases this
   ·have:X.env.scope.names.lookup x=some .free:=hk;rw[k] at this;cases this
def zI(f:Int->Int->Int):wk:=λx y H Q=>V1 x λi=>V1 y λj=>Q (.int (f i j)) H
theorem Ye:yS X .Add (zI λi j=>i+j):=by intro AF s σ H x y v u Q I r1 r2 h;obtain⟨i,e1,h⟩:=V1.ex h;obtain⟨j,e2,q⟩:=V1.ex h;subst e1;subst e2;obtain⟨t,rfl⟩:=r1;obtain⟨t',rfl⟩:=r2;exact iadd_int ⟨.int _,H,I.tok _,⟨_,rfl⟩,q⟩
end
section
variable{pos:Pos}
def Yf(c:TT)(tb:TS):TS:=λD σ H=>∃W:Nat->St->Hp->Prop,(∃m,W m σ H)/\∀m σ H,W m σ H->
 c σ H λb H1=>if b=true then ∃N:St->Hp->Prop,(∀σ' H',N σ' H'->∃m',m'<m/\W m' σ' H')/\tb {D with nx:=N,ct:=N,bk:=D.nx} σ H1 else D.nx σ H1
theorem FX{c:Expr}{body:List Stmt}{tc:TT}(hp:PassesOwn (model X.prog X.w) X.A X.env X.xe)(hc:PT X c tc)(hb:cz X body tb):PS X (.While c body [] pos) (Yf tc tb):=by
 intro AF s σ H D I h;obtain⟨W,⟨m0,w0⟩,turn⟩:=h;refine wpAny_While (codeAny_whileLoop (λn s'=>∃σ' H',Inv X AF σ' H' s'/\W n σ' H') ?_ m0 ⟨σ,H,I,w0⟩);rintro n s1 ⟨σ1,H1,I1,w1⟩;refine wpAny_passesOwn hp (CK (hc AF s1 σ1 H1 _ I1 (turn n σ1 H1 w1)) ?_);rintro b s2 ⟨H2,I2,q2⟩;cases b with
 |true=>
  obtain⟨N,hN,q2⟩:=q2;rw[if_pos rfl];refine wpAny_passesOwn hp (CK (hb AF s2 σ1 H2 _ I2 q2) λf s3 q3=> ?_);cases f with
  |next=>obtain⟨σ3,H3,I3,n3⟩:=q3;obtain⟨m',hm,w3⟩:=hN σ3 H3 n3;exact⟨m',hm,σ3,H3,I3,w3⟩
  |cont=>obtain⟨σ3,H3,I3,n3⟩:=q3;obtain⟨m',hm,w3⟩:=hN σ3 H3 n3;exact⟨m',hm,σ3,H3,I3,w3⟩
  |brk=>exact q3
  |ret v=>exact q3
 |false=>rw[if_neg Bool.false_ne_true];exact wpAny_execs_nil ⟨σ1,H2,I2,q2⟩
end
structure It where
 go:Nat->Hp->Prop
 iU:Nat->Hp->V->Hp->Prop
 stop:Nat->Hp->Prop
def Xl(X:Cx)(AF:List (Addr×Obj))(H:Hp)(b:Addr):Prop:=
 H b=none/\b≠X.env.locals/\b∉X.fs/\(b∈X.ex\/X.Kc.heap.objs.size<=b)/\(∀x c,X.env.cells.lookup x=some c->c≠b)/\∀p∈X.pn++AF,p.1≠b
theorem Inv.mK(I:Inv X AF σ H s)(hb:s.heap.objs.size<=b)(hn:H' b=none):Xl X AF H' b:=by
 refine⟨hn,ne_of_gt (lt_of_lt_of_le I.lt hb),I.ud hb,.inr (Nat.le_trans I.sz hb),λx c e z=> ?_,λp hp z=> ?_⟩
 ·obtain⟨v,q⟩:=I.cell x c e;exact absurd (lt_of_lt_of_le q.lt (by rw[z];exact hb)) (Nat.lt_irrefl _)
 ·exact absurd (lt_of_lt_of_le (lt_size (I.pin p hp).1) (by rw[z];exact hb)) (Nat.lt_irrefl _)
structure Turn(P:Program)(w:World)(K:Frag)(tg:Expr)(J:It)(fp:List Addr)(it:Addr)(tn:Nat->Heap->Prop):Prop where
 mem:it∈fp
 obj:∀i h,tn i h->∀b∈fp,∃o,h.get? b=some o/\∀v,o.data≠ .cell v
 keep:∀i h h',tn i h->(∀b∈fp,∀o,h.get? b=some o->h'.get? b=some o)->tn i h'
 item:∀(X:Cx),X.prog=P->X.w=w->X.K=K->X.calm=true->∀(i:Nat) (AF:List (Addr×Obj)) (s:Shared) (σ:St) (H:Hp) (E:Value->Shared->Prop),Inv X AF σ H s->(∀b∈fp,Xl X AF H b)->tn i s.heap->J.go i H->
  wpAny (model P w) X.A (pyNext (.ref it)) (λr s1=>∃u,r=some u/\
   wpAny (model P w) X.A (letOwnedTupleGo tg (.ref it) u) (λ_ s2=>∃x H',Inv X AF σ H' s2/\BI x u/\J.iU i H x H'/\tn (i+1) s2.heap/\∀b∈fp,H' b=none) E s1) E s
 done:∀(X:Cx),X.prog=P->X.w=w->X.K=K->X.calm=true->∀(i:Nat) (AF:List (Addr×Obj)) (s:Shared) (σ:St) (H:Hp) (E:Value->Shared->Prop),Inv X AF σ H s->(∀b∈fp,Xl X AF H b)->tn i s.heap->J.stop i H->
  wpAny (model P w) X.A (pyNext (.ref it)) (λr s1=>r=none/\Inv X AF σ H s1) E s
 self:∀(A:Around) (i:Nat) (s:Shared) (Q:Value->Shared->Prop) (E:Value->Shared->Prop),tn i s.heap->Q (.ref it) s->wpAny (model P w) A (pyIter (.ref it)) Q E s
abbrev TI:=St->Hp->(It->Hp->Prop)->Prop
def ya(X:Cx)(AF:List (Addr×Obj))(σ:St)(tg:Expr)(R:It->Hp->Prop)(itv:Value)(s2:Shared):Prop:=
 ∃(it:Addr) (fp:List Addr) (tn:Nat->Heap->Prop) (J:It) (H':Hp),itv= .ref it/\Inv X AF σ H' s2/\Turn X.prog X.w X.K tg J fp it tn/\tn 0 s2.heap/\(∀b∈fp,Xl X AF H' b)/\R J H'
def PI(X:Cx)(tg iter:Expr)(wi:TI):Prop:=
 ∀(AF:List (Addr×Obj)) (s:Shared) (σ:St) (H:Hp) (R:It->Hp->Prop),Inv X AF σ H s->wi σ H R->
  wpAny (model X.prog X.w) X.A (eval iter X.env) (λv s1=>wpAny (model X.prog X.w) X.A (pyIter v) (ya X AF σ tg R) X.xe s1) X.xe s
theorem oJ{M:Model}{it:Addr}{n:String}{Q:Unit->Shared->Prop}(ho:s.heap.get? it=some o)(hc:o.cls= .type n)(hd:o.data= .fields vs)
  (hn:["enumerate","zip","dict_itemiterator","dict_reverseitemiterator","odict_iterator","itertools.zip_longest","itertools.pairwise"].contains n=false) (hQ:Q () s):wpAny M A (letOwnedTupleGo tg (.ref it) u) Q E s:=by
 unfold letOwnedTupleGo;cases tg<;>first
  |exact wpAny_pure hQ
  |(cases u<;>first
    |exact wpAny_pure hQ
    |(refine wpAny_bind (wpAny_load ho ?_);rw[hc,hd];show wpAny M A (if (["enumerate","zip","dict_itemiterator","dict_reverseitemiterator","odict_iterator","itertools.zip_longest","itertools.pairwise"].contains n && vs[0]?==some (rawInt _))=true then _ else _) Q E s;rw[if_neg (by intro h;rw[hn,Bool.false_and] at h;cases h)];exact wpAny_pure hQ))
def kD(K:Frag)(a:Addr):It:=
 ⟨λi H=>∃xs x,A4 K H a xs/\xs[i]?=some x,λi H x H'=>H'=H/\∀xs,A4 K H a xs->xs[i]?=some x,λi H=>∃xs,A4 K H a xs/\xs.length<=i⟩
def nv(lo:Int)(n:Nat):It:=⟨λi _=>i<n,λi H x H'=>H'=H/\x= .int (lo+i),λi _=>n<=i⟩
theorem mY(a it:Addr):Turn P w K tg (kD K a) [it] it (λi h=>h.IsListIter it a i) where
 mem:=by simp
 obj:=λi h st b hb=>by
  have e:b=it:=by simpa using hb
  subst e;obtain⟨o,e,c,d⟩:=st;exact⟨o,e,λv z=>by rw[d] at z;cases z⟩
 keep:=λi h h' st k=>st.at λo e=>k it (by simp) o e
 item:=by intro X hP hw hK hc i AF s σ H E I hf st hg;subst hP hw hK;obtain⟨xs,x,hq,hx⟩:=hg;obtain⟨A7,rv,p,hz⟩:=I.list hq;obtain⟨u,hu,ru⟩:=rv.get hx;obtain⟨f0,f1,f2,f3,f4,f5⟩:=hf it (by simp);refine wpAny_pyNext_list_item st p.isList (x:=u) (by simpa using hu) λh' st' sb=> ?_;have I1:Inv X AF σ H {s with heap:=h'}:=I.turned (t':=s.toks) (λb o hb e=>(sb.2 b hb).trans e) f0 f1 f3 f4 f5;obtain⟨o,e,c,d⟩:=id st';exact⟨u,rfl,oJ (s:={s with heap:=h'}) e c d (by decide) ⟨x,H,I1,ru,⟨rfl,λys hy=>by rw[I.Ur hy hq];exact hx⟩,st',λb hb=>(hf b hb).1⟩⟩
 done:=by intro X hP hw hK hc i AF s σ H E I hf st hg;subst hP hw hK;obtain⟨xs,hq,hx⟩:=hg;obtain⟨A7,rv,p,hz⟩:=I.list hq;obtain⟨f0,f1,f2,f3,f4,f5⟩:=hf it (by simp);have hl:=rv.length;exact wpAny_pyNext_list_end (I.ok.hd hc) st p.isList (by simp;lia) λh' eb=>⟨rfl,I.turned (t':=s.toks) (λb o hb e=>eb b o hb e) f0 f1 f3 f4 f5⟩
 self:=λ_ _ _ _ _ st h=>wpAny_pyIter_listiter st h
theorem jL(it:Addr)(lo:Int)(n:Nat):Turn P w K tg (nv lo n) [it] it (λi h=>IsRangeIter h it (lo+(i:Nat) * 1) ((n:Int) - (i:Nat)) 1) where
 mem:=by simp
 obj:=λi h st b hb=>by
  have e:b=it:=by simpa using hb
  subst e;exact⟨_,st,λv z=>by have z':Data.fields _=Data.cell v:=z;cases z'⟩
 keep:=λi h h' st k=>k it (by simp) _ st
 item:=by intro X hP hw hK hc i AF s σ H E I hf st hg;subst hP hw hK;obtain⟨f0,f1,f2,f3,f4,f5⟩:=hf it (by simp);have W:=Walks.range (prog:=X.prog) (w:=X.w) (I.ok.hd hc) it lo 1 n;refine W.item i s _ _ hg st λv h' tk hv st' kk=> ?_;obtain⟨t,rfl⟩:=hv;have I1:Inv X AF σ H {s with heap:=h',toks:=tk}:=I.turned (λb o hb e=>kk b o (by simpa using hb) e) f0 f1 f3 f4 f5;refine⟨_,rfl,oJ (s:={s with heap:=h',toks:=tk}) (n:= "range_iterator") st' rfl rfl (by decide) ⟨.int (lo+i),H,I1,⟨t,?_⟩,⟨rfl,rfl⟩,st',λb hb=>(hf b hb).1⟩⟩;rw[Int.mul_one]
 done:=by intro X hP hw hK hc i AF s σ H E I hf st hg;subst hP hw hK;obtain⟨f0,f1,f2,f3,f4,f5⟩:=hf it (by simp);exact wpAny_pyNext_range_end (I.ok.hd hc) st (by have:n<=i:=hg;lia) λh' eb=>⟨rfl,I.turned (t':=s.toks) (λb o hb e=>eb b o hb e) f0 f1 f3 f4 f5⟩
 self:=λ_ _ _ _ _ st h=>wpAny_pyIter_rangeiter st h
end L2
namespace L2
open PySem PySem.Spec PyProof.Rows
section
def tq(K:Frag)(tl:TE):TI:=λσ H R=>tl σ H λx H1=>∃a,x= .ref a/\(∃xs,A4 K H1 a xs)/\R (kD K a) H1
theorem Cb{l:Expr}{tl:TE}(hl:PE X l tl):PI X tg l (tq X.K tl):=by
 intro AF s σ H R I h;refine CK (hl AF s σ H _ I h) ?_;rintro v s1 ⟨x,H1,I1,r1,q1⟩;obtain⟨a,e,⟨xs,hq⟩,q⟩:=q1;subst e;cases r1;obtain⟨A7,rv,p,hz⟩:=I1.list hq;refine wpAny_pyIter_list p.isList ?_;refine⟨s1.heap.objs.size,[s1.heap.objs.size],_,_,H1,rfl,I1.kept (t':=s1.toks) λb o e=>get?_push_of_some _ e,mY a _,⟨_,get?_push_size _ rfl,rfl,rfl⟩,λb hb=> ?_,q⟩;have e:b=s1.heap.objs.size:=by simpa using hb
 subst e;exact I1.mK (Nat.le_refl _) (I1.BL.fresh (Nat.le_refl _))
theorem pq{R:It->Hp->Prop}{lo hi:Int}{t u v:Tok}(I:Inv X AF σ H s)(h1: -(2 ^ 62)<=lo)(h2:lo<2 ^ 62)(h3: -(2 ^ 62)<=hi)(h4:hi<2 ^ 62)
  (q:R (nv lo (hi - lo).toNat) H):wpAny (model X.prog X.w) X.A (pyIter (.ref s.heap.objs.size)) (ya X AF σ tg R) E {s with heap:=s.heap.push {cls:= .type "range",data:= .fields #[.int lo t,.int hi u,.int 1 v]},toks:=tk}:=by
 refine wpAny_pyIter_range (IsRange.new ..) (small_one h1 h2 h3 h4) ?_;have I1:Inv X AF σ H {s with heap:=s.heap.push {cls:= .type "range",data:= .fields #[.int lo t,.int hi u,.int 1 v]},toks:=tk}:=I.kept λb o e=>get?_push_of_some _ e;refine⟨(s.heap.push {cls:= .type "range",data:= .fields #[.int lo t,.int hi u,.int 1 v]}).objs.size,[(s.heap.push {cls:= .type "range",data:= .fields #[.int lo t,.int hi u,.int 1 v]}).objs.size],_,_,H,rfl,
  I1.kept (t':=tk) λb o e=>get?_push_of_some _ e,jL _ lo (hi - lo).toNat,?_,λb hb=> ?_,q⟩
 ·have e1:lo+((0:Nat):Int) * 1=lo:=by simp
  have e2:(((hi - lo).toNat:Nat):Int) - ((0:Nat):Int)=Builtin.Range.rangeSize lo hi 1:=by rw[rangeSize_one];split<;>lia
  show IsRangeIter _ _ (lo+((0:Nat):Int) * 1) ((((hi - lo).toNat:Nat):Int) - ((0:Nat):Int)) 1;rw[e1,e2];exact get?_push_size _ rfl
 ·have e:b=(s.heap.push {cls:= .type "range",data:= .fields #[.int lo t,.int hi u,.int 1 v]}).objs.size:=by simpa using hb
  subst e;exact I1.mK (Nat.le_refl _) (I1.BL.fresh (Nat.le_refl _))
def tu(ta:TA):TI:=λσ H R=>ta σ H λvs H1=>∃j:Int,vs=[.int j]/\ -(2 ^ 62)<=j/\j<2 ^ 62/\R (nv 0 j.toNat) H1
theorem Nk{a:Expr}{ta:TA}{pos:Pos}(hg:Gl X "range")(hm:X.mg "range"=none)(ha:PA X [a] ta)(hs:starEach [a] X.env=[(false,eval a X.env)]:=by rfl):PI X tg (.Call (.Name "range" p) [a] [] pos) (tu ta):=by
 intro AF s σ H R I h;refine Call_ (OQ I hg hm boot_range (PyProof.Rows.callWith_type1 (CK (ha pos AF s σ H _ I h) ?_) hs rfl));rintro us s1 ⟨vs,H1,I1,r1,q1⟩;obtain⟨j,e,q1,q2,q⟩:=q1;subst e;cases r1 with
 |cons r rr=>
  cases rr;obtain⟨t,rfl⟩:=r;exact call_range_1 (pq I1 (by lia) (by lia) q1 q2 (by simpa using q))
def yq(wi:TI)(g:TG)(tb:TS):TS:=λD σ H=>wi σ H λJ H1=>∃W:Nat->Nat->St->Hp->Prop,(∃m,W 0 m σ H1)/\∀i m σ H,W i m σ H->
 (J.stop i H/\D.nx σ H)\/(J.go i H/\∃N:St->Hp->Prop,(∀σ' H',N σ' H'->∃m',m'<m/\W (i+1) m' σ' H')/\∀x H',J.iU i H x H'->g x σ H' λσ2 H2=>tb {D with nx:=N,ct:=N,bk:=D.nx} σ2 H2)
def Yg(fp:List Addr)(h:Heap):List (Addr×Obj):=fp.filterMap λb=>(h.get? b).map λo=>(b,o)
theorem T3(hb:b∈fp)(e:h.get? b=some o):(b,o)∈Yg fp h:=mem_filterMap.mpr ⟨b,hb,by rw[e];rfl⟩
theorem mZ{p:Addr×Obj}(hp:p∈Yg fp h):p.1∈fp/\h.get? p.1=some p.2:=by
 obtain⟨b,hb,e⟩:=mem_filterMap.mp hp;cases q:h.get? b with
 |none=>rw[q] at e;cases e
 |some o=>rw[q] at e;have e':(b,o)=p:=Option.some.inj e;subst e';exact⟨hb,q⟩
theorem Inv.pinned(I:Inv X AF σ H s)(hf:∀b∈fp,Xl X AF H b)(ho:∀b∈fp,∃o,s.heap.get? b=some o/\∀v,o.data≠ .cell v):Inv X (AF++Yg fp s.heap) σ H s:=
 I.Ue λp hp=>(mem_append.mp hp).elim (λz=>I.pin p (mem_append_right _ z)) λz=>by obtain⟨hb,e⟩:=mZ z;obtain⟨f0,f1,f2,_⟩:=hf p.1 hb;obtain⟨o,e',d⟩:=ho p.1 hb;rw[e] at e';cases e';exact⟨e,f0,f1,f2,d⟩
theorem Inv.Us{pl:List (Addr×Obj)}(I:Inv X (AF++pl) σ H s):Inv X AF σ H s:=I.Ue λp hp=>I.pin p (mem_append_right _ (mem_append_left _ hp))
theorem JL{body:List Stmt}{wi:TI}{g:TG}{pos:Pos}(hp:PassesOwn (model X.prog X.w) X.A X.env X.xe)(hc:X.calm=true)(hi:PI X tg iter wi)(hg:PG X tg g)(hb:cz X body tb)
  (hs:∀x,foldedSetIterable iter X.env x=pure x:=by intro _;rfl):PS X (.For tg iter body [] pos) (yq wi g tb):=by
 intro AF s σ H D I h;refine wpAny_For (CK (hi AF s σ H _ I h) λv s1 h1=>CK h1 λitv s2 h2=> ?_) hs;obtain⟨it,fp,tn,J,H2,e,I2,T,st2,f2,W,⟨m0,w0⟩,turn⟩:=h2;subst e;have stat:∀{H':Hp},(∀b∈fp,H' b=none)->∀b∈fp,Xl X AF H' b:=λhn b hb=>⟨hn b hb,(f2 b hb).2⟩;refine codeAny_forLoop_any (λn s'=>∃i σ' H',Inv X AF σ' H' s'/\tn i s'.heap/\(∀b∈fp,H' b=none)/\W i n σ' H') ?_ m0 ⟨0,σ,H2,I2,st2,λb hb=>(f2 b hb).1,w0⟩;rintro n s3 ⟨i,σ3,H3,I3,st3,fr3,w3⟩;rcases turn i n σ3 H3 w3 with⟨stop,qn⟩ | ⟨go,N,hN,step⟩
 ·refine wpAny_passesOwn hp (CK (T.done X rfl rfl rfl hc i AF s3 σ3 H3 X.xe I3 (stat fr3) st3 stop) ?_);rintro r s4 ⟨hr,I4⟩;subst hr;exact wpAny_execs_nil ⟨σ3,H3,I4,qn⟩
 ·refine wpAny_passesOwn hp (CK (T.item X rfl rfl rfl hc i AF s3 σ3 H3 X.xe I3 (stat fr3) st3 go) ?_);rintro r s4 ⟨u,hr,h4⟩;subst hr;refine wpAny_passesOwn hp (CK h4 ?_);rintro _ s5 ⟨x,H5,I5,r5,y5,st5,fr5⟩;have I5':=I5.pinned (stat fr5) (T.obj _ _ st5);refine wpAny_passesOwn hp (CK (hg _ s5 σ3 H5 x u _ I5' r5 (step x H5 y5)) ?_);rintro _ s6 ⟨σ6,H6,I6,q6⟩;refine wpAny_passesOwn hp (CK (hb _ s6 σ6 H6 _ I6 q6) λf s7 q7=> ?_);have again:∀{σ7:St} {H7:Hp},Inv X (AF++Yg fp s5.heap) σ7 H7 s7->N σ7 H7->∃m,m<n/\∃i σ' H',Inv X AF σ' H' s7/\tn i s7.heap/\(∀b∈fp,H' b=none)/\W i m σ' H':=λ{σ7 H7} I7 n7=>by
   obtain⟨m',hm,w7⟩:=hN σ7 H7 n7;refine⟨m',hm,i+1,σ7,H7,I7.Us,T.keep _ _ _ st5 λb hb o e=>(I7.pin (b,o) (mem_append_right _ (mem_append_right _ (T3 hb e)))).1,λb hb=> ?_,w7⟩;obtain⟨o,e,d⟩:=T.obj _ _ st5 b hb;exact(I7.pin (b,o) (mem_append_right _ (mem_append_right _ (T3 hb e)))).2.1
  cases f with
  |next=>obtain⟨σ7,H7,I7,n7⟩:=q7;exact again I7 n7
  |cont=>obtain⟨σ7,H7,I7,n7⟩:=q7;exact again I7 n7
  |brk=>obtain⟨σ7,H7,I7,q7⟩:=q7;exact⟨σ7,H7,I7.Us,q7⟩
  |ret v=>obtain⟨x7,σ7,H7,I7,r7,q7⟩:=q7;exact⟨x7,σ7,H7,I7.Us,r7,q7⟩
end
theorem Kr{g:TG}(Pv:Nat->St->Hp->Prop)(h0:Pv 0 σ H)(hl:∀i σ H,i<=xs.length->Pv i σ H->A4 K H a xs)
  (hs:∀i x σ H,xs[i]?=some x->Pv i σ H->g x σ H λσ2 H2=>tb {D with nx:=Pv (i+1),ct:=Pv (i+1),bk:=D.nx} σ2 H2) (hd:∀σ H,Pv xs.length σ H->D.nx σ H):
  ∃W:Nat->Nat->St->Hp->Prop,(∃m,W 0 m σ H)/\∀i m σ H,W i m σ H->
   ((kD K a).stop i H/\D.nx σ H)\/((kD K a).go i H/\∃N:St->Hp->Prop,(∀σ' H',N σ' H'->∃m',m'<m/\W (i+1) m' σ' H')/\∀x H',(kD K a).iU i H x H'->g x σ H' λσ2 H2=>tb {D with nx:=N,ct:=N,bk:=D.nx} σ2 H2):=by
 refine⟨λi m σ H=>m=xs.length - i/\i<=xs.length/\Pv i σ H,⟨xs.length,by simp,zero_le _,h0⟩,?_⟩;rintro i m σ H ⟨rfl,hi,p⟩;have q:=hl i σ H hi p;by_cases hlt:i<xs.length
 ·refine .inr ⟨⟨xs,xs[i],q,by simp[hlt]⟩,Pv (i+1),λσ' H' p'=>⟨xs.length - (i+1),by lia,rfl,hlt,p'⟩,λx H' y=> ?_⟩;obtain⟨e,y⟩:=y;subst e;exact hs i x σ _ (y xs q) p
 ·have e:i=xs.length:=by lia
  subst e;exact .inl ⟨⟨xs,q,Nat.le_refl _⟩,hd σ H p⟩
theorem V9{lo:Int}{g:TG}(Pv:Nat->St->Hp->Prop)(h0:Pv 0 σ H)
  (hs:∀i σ H,i<n->Pv i σ H->g (.int (lo+i)) σ H λσ2 H2=>tb {D with nx:=Pv (i+1),ct:=Pv (i+1),bk:=D.nx} σ2 H2) (hd:∀σ H,Pv n σ H->D.nx σ H):
  ∃W:Nat->Nat->St->Hp->Prop,(∃m,W 0 m σ H)/\∀i m σ H,W i m σ H->
   ((nv lo n).stop i H/\D.nx σ H)\/((nv lo n).go i H/\∃N:St->Hp->Prop,(∀σ' H',N σ' H'->∃m',m'<m/\W (i+1) m' σ' H')/\∀x H',(nv lo n).iU i H x H'->g x σ H' λσ2 H2=>tb {D with nx:=N,ct:=N,bk:=D.nx} σ2 H2):=by
 refine⟨λi m σ H=>m=n - i/\i<=n/\Pv i σ H,⟨n,by simp,zero_le _,h0⟩,?_⟩;rintro i m σ H ⟨rfl,hi,p⟩;by_cases hlt:i<n
 ·refine .inr ⟨hlt,Pv (i+1),λσ' H' p'=>⟨n - (i+1),by lia,rfl,hlt,p'⟩,λx H' y=> ?_⟩;obtain⟨e,y⟩:=y;subst e y;exact hs i σ _ hlt p
 ·have e:i=n:=by lia
  subst e;exact .inl ⟨Nat.le_refl _,hd σ H p⟩
end L2
namespace L2
open PySem PySem.Spec PyProof.Rows
abbrev R2:=V->V->Hp->VK->Prop
def V2(X:Cx)(f:Value->Value->Sem Value)(r:R2):Prop:=
 ∀(AF:List (Addr×Obj)) (s:Shared) (σ:St) (H:Hp) (x y:V) (v u:Value) (Q:VK),Inv X AF σ H s->BI x v->BI y u->r x y H Q->
  wpAny (model X.prog X.w) X.A (f v u) (EP X AF σ Q) X.xe s
def yb(X:Cx)(f:Value->Sem Value)(r:V->Hp->VK->Prop):Prop:=
 ∀(AF:List (Addr×Obj)) (s:Shared) (σ:St) (H:Hp) (x:V) (v:Value) (Q:VK),Inv X AF σ H s->BI x v->r x H Q->
  wpAny (model X.prog X.w) X.A (f v) (EP X AF σ Q) X.xe s
def Ji(X:Cx)(f:Value)(r:List V->Hp->VK->Prop):Prop:=
 ∀(AF:List (Addr×Obj)) (s:Shared) (σ:St) (H:Hp) (xs:List V) (us:List Value) (Q:VK),Inv X AF σ H s->Vals xs us->r xs H Q->
  wpAny (model X.prog X.w) X.A (call f us) (EP X AF σ Q) X.xe s
def wm(r:R2)(ta tb:TE):TE:=λσ H Q=>ta σ H λx H1=>tb σ H1 λy H2=>r x y H2 Q
def zJ(r:V->Hp->VK->Prop)(ta:TE):TE:=λσ H Q=>ta σ H λx H1=>r x H1 Q
def rI(C:Int->Int->Prop)(g:Int->Int->V):R2:=λx y H Q=>V1 x λi=>V1 y λj=>C i j/\Q (g i j) H
def tS(g:Int->Int->V):R2:=λx y H Q=>V1 x λi=>V1 y λj=>Q (g i j) H
def rU(g:Int->V):V->Hp->VK->Prop:=λx H Q=>V1 x λi=>Q (g i) H
section
variable{a b c:Expr}{tb tc:TE}{pos:Pos}
theorem uh(ha:PE X a ta)(hb:PE X b tb){R:V->V->Hp->Prop}(I:Inv X AF σ H s)
  (h:ta σ H λx H1=>tb σ H1 λy H2=>R x y H2) {f:Value->Value->Sem Value}
  (hf:∀v u s2 x y H2,Inv X AF σ H2 s2->BI x v->BI y u->R x y H2->wpAny (model X.prog X.w) X.A (f v u) Q X.xe s2):
  wpAny (model X.prog X.w) X.A (eval a X.env) (λv s₁=>wpAny (model X.prog X.w) X.A (eval b X.env) (λu s₂=>wpAny (model X.prog X.w) X.A (f v u) Q X.xe s₂) X.xe s₁) X.xe s:=by
 refine CK (ha AF s σ H _ I h) ?_;rintro v s1 ⟨x,H1,I1,r1,q1⟩;refine CK (hb AF s1 σ H1 _ I1 q1) ?_;rintro u s2 ⟨y,H2,I2,r2,q2⟩;exact hf v u s2 x y H2 I2 r1 r2 q2
theorem An{op:Operator}{r:R2}(ho:V2 X (binaryOp op) r)(ha:PE X a ta)(hb:PE X b tb):PE X (.BinOp a op b pos) (wm r ta tb):=by intro AF s σ H Q I h;exact wpAny_BinOp (uh ha hb I h λv u s2 x y H2 I2 rx ry q=>ho AF s2 σ H2 x y v u Q I2 rx ry q)
theorem fU{op:UnaryOp}{r:V->Hp->VK->Prop}(ho:yb X (unaryOp op) r)(ha:PE X a ta):PE X (.UnaryOp op a pos) (zJ r ta):=by intro AF s σ H Q I h;exact UnaryOp_ (CK (ha AF s σ H _ I h) λv s1 ⟨x,H1,I1,r1,q1⟩=>ho AF s1 σ H1 x v Q I1 r1 q1)
theorem yc{f:Value->Value->Sem Value}{C:Int->Int->Prop}{g:Int->Int->Int}
  (rule:∀(i j:Int) (t u:Tok) (s:Shared) (Q:Value->Shared->Prop) (E:Value->Shared->Prop),C i j->Q (.int (g i j) s.toks) {s with toks:=s.toks+1}->wpAny (model X.prog X.w) X.A (f (.int i t) (.int j u)) Q E s):
  V2 X f (rI C λi j=> .int (g i j)):=by
 intro AF s σ H x y v u Q I rx ry h;obtain⟨i,rfl,h⟩:=V1.ex h;obtain⟨j,rfl,hc,q⟩:=V1.ex h;obtain⟨t,rfl⟩:=rx;obtain⟨t',rfl⟩:=ry;exact rule i j t t' s _ _ hc ⟨.int (g i j),H,I.tok _,⟨_,rfl⟩,q⟩
theorem xH{f:Value->Value->Sem Value}{g:Int->Int->Int}
  (rule:∀(i j:Int) (t u:Tok) (s:Shared) (Q:Value->Shared->Prop) (E:Value->Shared->Prop),Q (.int (g i j) s.toks) {s with toks:=s.toks+1}->wpAny (model X.prog X.w) X.A (f (.int i t) (.int j u)) Q E s):
  V2 X f (tS λi j=> .int (g i j)):=by
 intro AF s σ H x y v u Q I rx ry h;obtain⟨i,rfl,h⟩:=V1.ex h;obtain⟨j,rfl,q⟩:=V1.ex h;obtain⟨t,rfl⟩:=rx;obtain⟨t',rfl⟩:=ry;exact rule i j t t' s _ _ ⟨.int (g i j),H,I.tok _,⟨_,rfl⟩,q⟩
theorem ui{f:Value->Value->Sem Value}{g:Int->Int->Bool}
  (rule:∀(i j:Int) (t u:Tok) (s:Shared) (Q:Value->Shared->Prop) (E:Value->Shared->Prop),Q (.bool (g i j)) s->wpAny (model X.prog X.w) X.A (f (.int i t) (.int j u)) Q E s):
  V2 X f (tS λi j=> .bl (g i j)):=by
 intro AF s σ H x y v u Q I rx ry h;obtain⟨i,rfl,h⟩:=V1.ex h;obtain⟨j,rfl,q⟩:=V1.ex h;obtain⟨t,rfl⟩:=rx;obtain⟨t',rfl⟩:=ry;exact rule i j t t' s _ _ ⟨.bl (g i j),H,I,rfl,q⟩
def yr(i j:Int):Prop:=0<j/\j<1073741824
def rP(i j:Int):Prop:=(-(2 ^ 64)<i/\i<2 ^ 64)\/(-(2 ^ 64)<j/\j<2 ^ 64)
theorem rP.ok{i j:Int}(h:rP i j):IntMulOk i j:=by
 rcases h with⟨h1,h2⟩ | ⟨h1,h2⟩
 ·exact .of_left (intBits_le_64 h1 h2)
 ·exact .of_right (intBits_le_64 h1 h2)
theorem Ca:V2 X (binaryOp .Add) (tS λi j=> .int (i+j)):=xH λ_ _ _ _ _ _ _ q=>add_int q
theorem D5:V2 X (binaryOp .Sub) (tS λi j=> .int (i - j)):=xH λ_ _ _ _ _ _ _ q=>sub_int q
theorem Yh:V2 X (binaryOp .Mult) (rI rP λi j=> .int (i * j)):=yc λ_ _ _ _ _ _ _ hc q=>mul_int q hc.ok
theorem Ug:V2 X (binaryOp .FloorDiv) (rI yr λi j=> .int (i / j)):=yc λi j _ _ _ _ _ hc q=>by have h1:(0:Int)<j:=hc.1;have h2:j<1073741824:=hc.2;exact floordiv_int (by lia) (by rw[Int.fdiv_eq_ediv_of_nonneg i (by lia)];exact q) (.inl (PyProof.noPylong_small (by lia)))
theorem vH:V2 X (binaryOp .Mod) (rI (λ_ j=>0<j) λi j=> .int (i % j)):=yc λi j _ _ _ _ _ hc q=>by have h1:(0:Int)<j:=hc;exact mod_int' (by lia) (by rw[Int.fmod_eq_emod_of_nonneg i (by lia)];exact q)
theorem zZ{f:Value->Sem Value}{g:Int->Int}
  (rule:∀(i:Int) (t:Tok) (s:Shared) (Q:Value->Shared->Prop) (E:Value->Shared->Prop),Q (.int (g i) s.toks) {s with toks:=s.toks+1}->wpAny (model X.prog X.w) X.A (f (.int i t)) Q E s):
  yb X f (rU λi=> .int (g i)):=by
 intro AF s σ H x v Q I rx h;obtain⟨i,rfl,q⟩:=V1.ex h;obtain⟨t,rfl⟩:=rx;exact rule i t s _ _ ⟨.int (g i),H,I.tok _,⟨_,rfl⟩,q⟩
theorem Yi:yb X (unaryOp .USub) (rU λi=> .int (-i)):=zZ λ_ _ _ _ _ q=>neg_int q
end
def xI:V->V->Bool
 | .Fn,.Fn=>true | .Fn,.int _=>true | .int _,.Fn=>true | .Fn,.bl _=>true | .bl _,.Fn=>true | .Fn,.str _=>true | .str _,.Fn=>true
 | .int _,.int _=>true | .bl _,.bl _=>true | .str _,.str _=>true | .iP _,.iP _=>true
 | .int _,.str _=>true | .str _,.int _=>true | .bl _,.str _=>true | .str _,.bl _=>true
 |_,_=>false
def zK:R2:=λx y H Q=>xI x y=true/\Q (.bl (decide (x=y))) H
def zL:R2:=λx y H Q=>xI x y=true/\Q (.bl (!decide (x=y))) H
theorem kW{i j:Int}:decide (V.int i=V.int j)=(i==j):=by rw[Bool.eq_iff_iff];simp
theorem oz{i j:Bool}:decide (V.bl i=V.bl j)=(i==j):=by rw[Bool.eq_iff_iff];simp
theorem kX{i j:Str}:decide (V.str i=V.str j)=(i==j):=by rw[Bool.eq_iff_iff];simp
theorem kY{i j:Array UInt8}:decide (V.iP i=V.iP j)=(i.toList==j.toList):=by rw[Bool.eq_iff_iff];cases i;cases j;simp
section
variable{a b c:Expr}{tb tc:TE}{pos:Pos}
theorem Bs{Q:VK}{k k':Bool}(I:Inv X AF σ H s)(q:Q (.bl k) H)(e:k=k'):EP X AF σ Q (.bool k') s:=by subst e;exact⟨.bl k,H,I,rfl,q⟩
theorem B3:V2 X (compareOp .Eq) zK:=by
 intro AF s σ H x y v u Q I rx ry h;obtain⟨hs,q⟩:=h;cases x with
 |Fn=>
  cases rx;cases y with
  |Fn=>cases ry;exact PySem.EqNone.eq_none_none (Bs I q (by simp))
  |bl j=>cases ry;exact PySem.EqNone.eq_none_bool (Bs I q (by simp))
  |int j=>obtain⟨t',rfl⟩:=ry;exact PySem.EqNone.eq_none_int (Bs I q (by simp))
  |str j=>obtain⟨t',rfl⟩:=ry;exact PySem.EqNone.eq_none_str (Bs I q (by simp))
  |_=>exact absurd (show false=true from hs) Bool.false_ne_true
 |bl i=>
  cases rx;cases y with
  |Fn=>cases ry;exact PySem.EqNone.eq_bool_none (Bs I q (by simp))
  |bl j=>cases ry;exact eq_bool (Bs I q oz)
  |str j=>obtain⟨t',rfl⟩:=ry;exact PySem.EqMixed.eq_bool_str (Bs I q (by simp))
  |_=>exact absurd (show false=true from hs) Bool.false_ne_true
 |int i=>
  obtain⟨t,rfl⟩:=rx;cases y with
  |Fn=>cases ry;exact PySem.EqNone.eq_int_none (Bs I q (by simp))
  |int j=>obtain⟨t',rfl⟩:=ry;exact eq_int (Bs I q kW)
  |str j=>obtain⟨t',rfl⟩:=ry;exact PySem.EqMixed.eq_int_str (Bs I q (by simp))
  |_=>exact absurd (show false=true from hs) Bool.false_ne_true
 |str i=>
  obtain⟨t,rfl⟩:=rx;cases y with
  |Fn=>cases ry;exact PySem.EqNone.eq_str_none (Bs I q (by simp))
  |bl j=>cases ry;exact PySem.EqMixed.eq_str_bool (Bs I q (by simp))
  |int j=>obtain⟨t',rfl⟩:=ry;exact PySem.EqMixed.eq_str_int (Bs I q (by simp))
  |str j=>obtain⟨t',rfl⟩:=ry;exact eq_str (Bs I q kX)
  |_=>exact absurd (show false=true from hs) Bool.false_ne_true
 |iP i=>
  obtain⟨t,rfl⟩:=rx;cases y with
  |iP j=>obtain⟨t',rfl⟩:=ry;exact PySem.W.eq_bytes (Bs I q kY)
  |_=>exact absurd (show false=true from hs) Bool.false_ne_true
 |_=>cases y<;>exact absurd (show false=true from hs) Bool.false_ne_true
theorem FV:V2 X (compareOp .NotEq) zL:=by
 intro AF s σ H x y v u Q I rx ry h;obtain⟨hs,q⟩:=h;cases x with
 |Fn=>
  cases rx;cases y with
  |Fn=>cases ry;exact PySem.EqNone.ne_none_none (Bs I q (by simp))
  |bl j=>cases ry;exact PySem.EqNone.ne_none_bool (Bs I q (by simp))
  |int j=>obtain⟨t',rfl⟩:=ry;exact PySem.EqNone.ne_none_int (Bs I q (by simp))
  |str j=>obtain⟨t',rfl⟩:=ry;exact PySem.EqNone.ne_none_str (Bs I q (by simp))
  |_=>exact absurd (show false=true from hs) Bool.false_ne_true
 |bl i=>
  cases rx;cases y with
  |Fn=>cases ry;exact PySem.EqNone.ne_bool_none (Bs I q (by simp))
  |bl j=>cases ry;exact ne_bool (Bs I q (congrArg not oz))
  |str j=>obtain⟨t',rfl⟩:=ry;exact PySem.EqMixed.ne_bool_str (Bs I q (by simp))
  |_=>exact absurd (show false=true from hs) Bool.false_ne_true
 |int i=>
  obtain⟨t,rfl⟩:=rx;cases y with
  |Fn=>cases ry;exact PySem.EqNone.ne_int_none (Bs I q (by simp))
  |int j=>obtain⟨t',rfl⟩:=ry;exact ne_int (Bs I q (congrArg not kW))
  |str j=>obtain⟨t',rfl⟩:=ry;exact PySem.EqMixed.ne_int_str (Bs I q (by simp))
  |_=>exact absurd (show false=true from hs) Bool.false_ne_true
 |str i=>
  obtain⟨t,rfl⟩:=rx;cases y with
  |Fn=>cases ry;exact PySem.EqNone.ne_str_none (Bs I q (by simp))
  |bl j=>cases ry;exact PySem.EqMixed.ne_str_bool (Bs I q (by simp))
  |int j=>obtain⟨t',rfl⟩:=ry;exact PySem.EqMixed.ne_str_int (Bs I q (by simp))
  |str j=>obtain⟨t',rfl⟩:=ry;exact ne_str (Bs I q (congrArg not kX))
  |_=>exact absurd (show false=true from hs) Bool.false_ne_true
 |iP i=>
  obtain⟨t,rfl⟩:=rx;cases y with
  |iP j=>obtain⟨t',rfl⟩:=ry;exact PySem.W.ne_bytes (Bs I q (congrArg not kY))
  |_=>exact absurd (show false=true from hs) Bool.false_ne_true
 |_=>cases y<;>exact absurd (show false=true from hs) Bool.false_ne_true
theorem GR:V2 X (compareOp .Lt) (tS λi j=> .bl (decide (i<j))):=ui λ_ _ _ _ _ _ _ q=>lt_int q
theorem Jj:V2 X (compareOp .LtE) (tS λi j=> .bl (decide (i<=j))):=ui λ_ _ _ _ _ _ _ q=>le_int q
theorem UZ:V2 X (compareOp .Gt) (tS λi j=> .bl (decide (j<i))):=ui λ_ _ _ _ _ _ _ q=>gt_int q
theorem AY(b:Expr){op:CmpOp}(h:op≠ .In:=by decide)(h2:op≠ .NotIn:=by decide):behindInMarks op b=false:=by
 have e1:(op==CmpOp.In)=false:=by cases op<;>first | rfl | exact absurd rfl h
 have e2:(op==CmpOp.NotIn)=false:=by cases op<;>first | rfl | exact absurd rfl h2
 cases b<;>simp[behindInMarks,e1,e2]
theorem KU{op:CmpOp}{r:R2}(ho:V2 X (compareOp op) r)(ha:PE X a ta)(hb:PE X b tb)(hm:behindInMarks op b=false):PE X (.Compare a [op] [b] pos) (wm r ta tb):=by intro AF s σ H Q I h;exact wpAny_Compare1 (uh ha hb I h λv u s2 x y H2 I2 rx ry q=>ho AF s2 σ H2 x y v u Q I2 rx ry q) hm
def oK(t:TE):TT:=λσ H Q=>t σ H λx H'=>aI x λk=>Q k H'
theorem AU{op:CmpOp}{r:R2}(ho:V2 X (compareOp op) r)(ha:PE X a ta)(hb:PE X b tb)(hm:behindInMarks op b=false):PT X (.Compare a [op] [b] pos) (oK (wm r ta tb)):=by intro AF s σ H Q I h;refine wpAny_isTrue_Compare1 (CK (ha AF s σ H _ I h) ?_) hm;rintro v s1 ⟨x,H1,I1,r1,q1⟩;refine CK (hb AF s1 σ H1 _ I1 q1) ?_;rintro u s2 ⟨y,H2,I2,r2,q2⟩;refine CK (ho AF s2 σ H2 x y v u _ I2 r1 r2 q2) ?_;rintro c s3 ⟨z,H3,I3,r3,q3⟩;replace q3:=aI.ex q3;obtain⟨k,e,q3⟩:=q3;subst e;cases r3;exact wpAny_truthy_bool ⟨H3,I3,q3⟩
def iy(r r':R2)(ta tb tc:TE):TE:=λσ H Q=>ta σ H λx H1=>tb σ H1 λy H2=>r x y H2 λz H3=>aI z λk=>(if k=true then tc σ H3 λw' H4=>r' y w' H4 Q else Q (.bl false) H3)
theorem p8{op op':CmpOp}{r r':R2}(ho:V2 X (compareOp op) r)(ho':V2 X (compareOp op') r')(ha:PE X a ta)(hb:PE X b tb)(hc:PE X c tc)
  (hm:lastMarks [op,op'] [b,c]=false:=by with_unfolding_all rfl):PE X (.Compare a [op,op'] [b,c] pos) (iy r r' ta tb tc):=by
 intro AF s σ H Q I h;refine Compare_chain (CK (ha AF s σ H _ I h) ?_) hm;rintro v s1 ⟨x,H1,I1,r1,q1⟩;refine chain_link (CK (hb AF s1 σ H1 _ I1 q1) ?_);rintro u s2 ⟨y,H2,I2,r2,q2⟩;refine CK (ho AF s2 σ H2 x y v u _ I2 r1 r2 q2) ?_;rintro d s3 ⟨z,H3,I3,r3,q3⟩;replace q3:=aI.ex q3;obtain⟨k,e,q3⟩:=q3;subst e;cases r3;refine wpAny_truthy_bool ?_;cases k with
 |false=>exact ite_ff ⟨.bl false,H3,I3,rfl,q3⟩
 |true=>exact ite_tt (chain_last (CK (hc AF s3 σ H3 _ I3 q3) λw' s4 ⟨z',H4,I4,r4,q4⟩=>ho' AF s4 σ H4 y z' u w' Q I4 r2 r4 q4))
theorem Nd{op op':CmpOp}{r r':R2}(ho:V2 X (compareOp op) r)(ho':V2 X (compareOp op') r')(ha:PE X a ta)(hb:PE X b tb)(hc:PE X c tc)
  (hm:lastMarks [op,op'] [b,c]=false:=by with_unfolding_all rfl):PT X (.Compare a [op,op'] [b,c] pos) (oK (iy r r' ta tb tc)):=by
 intro AF s σ H Q I h;refine isTrue_chain (CK (ha AF s σ H _ I h) ?_) hm;rintro v s1 ⟨x,H1,I1,r1,q1⟩;refine test_link (CK (hb AF s1 σ H1 _ I1 q1) ?_);rintro u s2 ⟨y,H2,I2,r2,q2⟩;refine CK (ho AF s2 σ H2 x y v u _ I2 r1 r2 q2) ?_;rintro d s3 ⟨z,H3,I3,r3,q3⟩;replace q3:=aI.ex q3;obtain⟨k,e,q3⟩:=q3;subst e;cases r3;refine wpAny_truthy_bool ?_;cases k with
 |false=>exact ite_ff ⟨H3,I3,q3⟩
 |true=>refine ite_tt (test_last (CK (hc AF s3 σ H3 _ I3 q3) ?_));rintro w' s4 ⟨z',H4,I4,r4,q4⟩;refine CK (ho' AF s4 σ H4 y z' u w' _ I4 r2 r4 q4) ?_;rintro d' s5 ⟨z2,H5,I5,r5,q5⟩;replace q5:=aI.ex q5;obtain⟨k2,e2,q5⟩:=q5;subst e2;cases r5;exact wpAny_truthy_bool ⟨H5,I5,q5⟩
theorem Yj:(sizeLine:Nat)<2 ^ 63:=by rw[sizeLine_eq];decide
theorem A1:V2 X (binaryOp .Add) (λx y H Q=>∃i j,x= .str i/\y= .str j/\i.length+j.length<=sizeLine/\Q (.str (i++j)) H):=by intro AF s σ H x y v u Q I rx ry h;obtain⟨i,j,rfl,rfl,hz,q⟩:=h;obtain⟨t,rfl⟩:=rx;obtain⟨t',rfl⟩:=ry;exact add_str (λt' tk=>⟨.str (i++j),H,I.tok _,⟨_,rfl⟩,q⟩) hz
theorem gu:V2 X (inplaceOp .Add) (λx y H Q=>∃i j,x= .str i/\y= .str j/\i.length+j.length<=sizeLine/\Q (.str (i++j)) H):=by intro AF s σ H x y v u Q I rx ry h;obtain⟨i,j,rfl,rfl,hz,q⟩:=h;obtain⟨t,rfl⟩:=rx;obtain⟨t',rfl⟩:=ry;exact iadd_str (λt' tk=>⟨.str (i++j),H,I.tok _,⟨_,rfl⟩,q⟩) hz
theorem vals1{x:V}(r:Vals [x] us):∃u,us=[u]/\BI x u:=by
 cases r with
 |cons r1 r2=>cases r2;exact⟨_,rfl,r1⟩
theorem vals2{x:V}(r:Vals [x,y] us):∃u w',us=[u,w']/\BI x u/\BI y w':=by
 cases r with
 |cons r1 r2=>
  cases r2 with
  |cons r3 r4=>cases r4;exact⟨_,_,rfl,r1,r3⟩
theorem bc(hc:X.calm=true):Ji X (.builtin "max") (λxs H Q=>∃i j,xs=[.int i,.int j]/\Q (.int (if j>i then j else i)) H):=by
 intro AF s σ H xs us Q I r h;obtain⟨i,j,rfl,q⟩:=h;obtain⟨u,w',rfl,⟨t,rfl⟩,⟨t',rfl⟩⟩:=vals2 r;refine max_two_ints (I.ok.hd hc) λh' tk k=>⟨_,H,I.kept k,?_,q⟩;by_cases hj:j>i
 ·rw[if_pos hj,if_pos hj];exact⟨_,rfl⟩
 ·rw[if_neg hj,if_neg hj];exact⟨_,rfl⟩
theorem Eu:Ji X (.type "str") (λxs H Q=>∃i,xs=[.int i]/\i.natAbs.log2<1920/\Q (.str (toString i)) H):=by intro AF s σ H xs us Q I r h;obtain⟨i,rfl,hz,q⟩:=h;obtain⟨u,rfl,t,rfl⟩:=vals1 r;exact PySem.P.str_of_int hz ⟨.str _,H,I.tok _,⟨_,rfl⟩,q⟩
theorem FY:Ji X (.builtin "ord") (λxs H Q=>∃x,xs=[.str x]/\x.length=1/\Q (.int (x.cps.getD 0 0:Nat)) H):=by intro AF s σ H xs us Q I r h;obtain⟨x,rfl,hz,q⟩:=h;obtain⟨u,rfl,t,rfl⟩:=vals1 r;exact ord_of_one hz ⟨.int _,H,I.tok _,⟨_,rfl⟩,q⟩
end
end L2
namespace L2
open PySem PySem.Spec PyProof.Rows
structure iX(h:Heap)(x dx C:Addr)(mA:Str->Option Value):Prop where
 obj:h.get? x=some (instObj C dx)
 ns:h.Ns1 dx mA
 ne:dx≠x
theorem ma(n:h.Ns1 dx mA):∃od,h.get? dx=some od/\∀name,lookIn name od=some (mA name):=by
 obtain⟨o,es,ep,ho,hd,hk,_,hm⟩:=n;refine⟨o,ho,λname=> ?_⟩;have e:=hm name;unfold nsFind findBy at e;rw[<-Array.find?_toList] at e;unfold lookIn;rw[hd];dsimp only;split
 ·rename_i y q;rw[q] at e;exact congrArg some e
 ·rename_i q;rw[q] at e;have a:es.toList.any (·.refKey)=false:=by
   rw[List.any_eq_false];intro y hy;obtain⟨z,t,hkey⟩:=hk y (Array.mem_toList_iff.mp hy);simp[DictEntry.refKey,hkey]
  have a':¬es.toList.any (·.refKey)=true:=by rw[a];exact Bool.false_ne_true
  rw[if_neg a'];exact congrArg some e
theorem iX.look{x:Addr}(I:iX h x dx C mA):∃od,PySem.W.InstAt h x (instObj C dx) C (some od)/\∀name,lookIn name od=some (mA name):=
 let ⟨od,ho,hl⟩:=ma I.ns
 ⟨od,⟨I.obj,rfl,rfl,ho⟩,hl⟩
section
variable{x:Addr}
theorem A5{expr:Bool}(X:K.In s.heap)(I:iX s.heap x dx C mA)(hg:plainGet K C name=true)(hh:hasDictIn K C=true)
  (ha:findIn K (.ref C) name=some none) (hv:mA name=some v) (hv':handedIn v=true) (h:Q v {s with toks:=s.toks+1}):
  wpAny (model prog w) A (getAttr (.ref x) name expr) Q E s:=by
 obtain⟨od,J,hl⟩:=I.look;exact PySem.W.get_value X J (plainGet_of hg).1 (PySem.W.findObj_own hh ha rfl (by rw[hl,hv])) hv' h
theorem p9{pl:Sem Bool}{Q:Value×List Value->Shared->Prop}(X:K.In s.heap)(I:iX s.heap x dx C mA)(hg:plainGet K C name=true)
  (hf:findIn K (.ref C) name=some (some (.ref f))) (ht:isFn K (.ref f)=true) (hv:mA name=none) (h:Q (.ref f,[.ref x]) s):
  wpAny (model prog w) A (getMethod (.ref x) name pl) Q E s:=by
 obtain⟨od,J,hl⟩:=I.look;exact PySem.W.method_fn X J (plainGet_of hg).1 (plainGet_of hg).2 hf (beq_iff_eq.mp ht) (by show (lookIn name od).map (·.isSome)=some false;rw[hl,hv];rfl) h
theorem rg{ns:List Str}{Q:Unit->Shared->Prop}(X:K.In s.heap)(I:iX s.heap x dx C mA)
  (hs:findIn K (.ref C) "__setattr__"=some (some (.builtin "object.__setattr__"))) (hp:plainOver K C=true) (ht:takerIn K C name=some none) (hh:hasDictIn K C=true)
  (hw:PySem.Within mA ns) (hsz:ns.length<=sizeLine)
  (h:∀h',iX h' x dx C (λy=>if y=name then some v else mA y)->Heap.SameBut dx s.heap h'->Q () {s with heap:=h',toks:=s.toks+2}):
  wpAny (model prog w) A (setAttr (.ref x) name v) Q E s:=by
 obtain⟨od,J,hl⟩:=I.look;refine PySem.W.set_plain X J hs (PySem.W.osa_open (s:={s with toks:=s.toks+1}) (r:=none) X J hp ht λb=> ?_);obtain⟨cd,hc,hd'⟩:=PySem.W.any_some hh;have hx:s.heap.get? x=some ⟨.ref C,some dx,.plain,#[]⟩:=I.obj;refine wpAny_bind (wpAny_pure (wpAny_bind (wpAny_bind (wpAny_loadPart hx (wpAny_bind (PySem.W.Looks.here (s:={s with toks:=s.toks+1}) (PySem.W.looks_clsIn X hc) ?_))))));rw[hd'];refine wpAny_pure (a:=some dx) (wpAny_bind (wpAny_pure (wpAny_bind ?_)));refine wpAny_nsSet1 (s:={s with toks:=s.toks+1}) I.ns λh' hn2 hs2=> ?_;obtain⟨oD,esD,epD,hoD,hdD,hcD⟩:=hn2.count (PySem.Within.cons name v hw);refine wpAny_bind (wpAny_lookBehind hoD (by rw[hdD];exact pastItsLine_dict (Nat.le_trans hcD (by rw[length_cons];lia))) ?_);exact wpAny_pure (h _ ⟨(hs2.2 _ (Ne.symm I.ne)).trans I.obj,hn2,I.ne⟩ hs2)
theorem qA{R:Result->Shared->Prop}{vs:List Value}{kw:List (Str×Value)}(X:K.In s.heap)(hm:makesIn K C=true)
  (hi:findIn K (.ref C) "__init__"=some (some (.ref f))) (hf:typeIn K (.ref f)=some (.type "function"))
  (h:codeAny (model prog w) (A.under (.builtin "type.__call__" ⟨.ref C::vs,kw⟩)) (.call (.ref f) ⟨.ref (s.heap.objs.size+1)::vs,kw⟩) (PySem.W.InitBack (s.heap.objs.size+1) R)
   {s with heap:=(s.heap.push emptyDict).push (instObj C s.heap.objs.size)}):
  codeAny (model prog w) A (.call (.ref C) ⟨vs,kw⟩) R s:=by
 obtain⟨hh,g,d,t,os⟩:=s;exact PySem.W.make_core (PySem.W.makes_of X hm) (PySem.W.looks_findIn X hi) (λself=>PySem.W.bind_fn X self hf) (.inl rfl) h
end
def Cg(f:Str)(v:V):List (Str×V)->List (Str×V)
 | []=> [(f,v)]
 |(g,x)::r=>if g=f then(g,v)::r else(g,x)::Cg f v r
theorem QX(f g:Str)(v:V):∀fs:List (Str×V),(Cg f v fs).lookup g=if g=f then some v else fs.lookup g
 | []=>by
  show List.lookup g [(f,v)]=_;by_cases h:g=f
  ·have hb:(g==f)=true:=beq_iff_eq.mpr h;simp only[List.lookup,hb,if_pos h]
  ·have hb:(g==f)=false:=beq_eq_false_iff_ne.mpr h;simp only[List.lookup,hb,if_neg h]
 |(k,x)::r=>by
  have ih:=QX f g v r;rw[show Cg f v ((k,x)::r)=(if k=f then(k,v)::r else(k,x)::Cg f v r) from rfl];by_cases hk:k=f
  ·rw[if_pos hk];by_cases h:g=k
   ·have hb:(g==k)=true:=beq_iff_eq.mpr h;simp only[List.lookup,hb,if_pos (h.trans hk)]
   ·have hb:(g==k)=false:=beq_eq_false_iff_ne.mpr h;simp only[List.lookup,hb,if_neg (λe:g=f=>h (e.trans hk.symm))]
  ·rw[if_neg hk];by_cases h:g=k
   ·have hb:(g==k)=true:=beq_iff_eq.mpr h;simp only[List.lookup,hb,if_neg (λe:g=f=>hk (h.symm.trans e))]
   ·have hb:(g==k)=false:=beq_eq_false_iff_ne.mpr h;simp only[List.lookup,hb];exact ih
theorem Nl(f:Str)(v:V):∀fs:List (Str×V),f∈(Cg f v fs).map (·.1)/\∀g,g∈fs.map (·.1)->g∈(Cg f v fs).map (·.1)
 | []=>⟨by simp[Cg],λg h=>by simp at h⟩
 |(k,x)::r=>by
  obtain⟨i1,i2⟩:=Nl f v r;rw[show Cg f v ((k,x)::r)=(if k=f then(k,v)::r else(k,x)::Cg f v r) from rfl];by_cases hk:k=f
  ·rw[if_pos hk];subst hk;exact⟨by simp,λg h=>by simpa using h⟩
  ·rw[if_neg hk];refine⟨?_,λg h=> ?_⟩
   ·rw[map_cons];exact mem_cons_of_mem _ i1
   ·rw[map_cons] at h ⊢;rcases mem_cons.mp h with e | e
    ·exact mem_cons.mpr (.inl e)
    ·exact mem_cons_of_mem _ (i2 g e)
theorem QY(f:Str)(v:V):∀fs:List (Str×V),(Cg f v fs).length<=fs.length+1
 | []=>by simp[Cg]
 |(k,x)::r=>by
  have ih:=QY f v r;rw[show Cg f v ((k,x)::r)=(if k=f then(k,v)::r else(k,x)::Cg f v r) from rfl];by_cases hk:k=f
  ·rw[if_pos hk,length_cons,length_cons];lia
  ·rw[if_neg hk,length_cons,length_cons];lia
theorem KI.some_of{v:V}{o:Option Value}(r:KI (some v) o):∃u,o=some u/\BI v u:=by
 cases o with
 |none=>exact(show False from r).elim
 |some u=>exact⟨u,rfl,r⟩
theorem KI.none_of{o:Option Value}(r:KI none o):o=none:=by
 cases o with
 |none=>rfl
 |some u=>exact(show False from r).elim
theorem bf{v:V}(r:BI v u):handedIn u=true:=by
 cases v with
 |Fn=>cases (show u=Value.none from r);rfl
 |bl b=>cases (show u=Value.bool b from r);rfl
 |int i=>obtain⟨t,e⟩:=(show ∃t,u=Value.int i t from r);cases e;rfl
 |str x=>obtain⟨t,e⟩:=(show ∃t,u=Value.str x t from r);cases e;rfl
 |iP b=>obtain⟨t,e⟩:=(show ∃t,u=Value.bytes b t from r);cases e;rfl
 |yR b=>obtain⟨t,e⟩:=(show ∃t,u=Value.float b t from r);cases e;rfl
 |ref a=>cases (show u=Value.ref a from r);rfl
 |ty n=>cases (show u=Value.type n from r);rfl
section
variable{fs fs':List (Str×V)}
theorem dZ(BL:Ma P w H h)(e:H a=some (.ins C dx fs)):∃mA,iX h a dx C mA/\(∀f,KI (fs.lookup f) (mA f))/\PySem.Within mA (fs.map (·.1))/\fs.length<=1000/\H dx=some (.own a):=by obtain⟨d,z,ne,ob,mA,n,r,q⟩:=(show CT P w H h a (.ins C dx fs) from BL a _ e);exact⟨mA,⟨ob,n,ne⟩,r,q,z,d⟩
end
structure X5(K:Frag)(C:Addr):Prop where
 pg:plainGet K C Str.empty=true
 hd:hasDictIn K C=true
 po:plainOver K C=true
 sa:findIn K (.ref C) "__setattr__"=some (some (.builtin "object.__setattr__"))
theorem X5.get(c:X5 K C)(f:Str):plainGet K C f=true:=c.pg
def BK(K:Frag)(C:Addr)(f:Str):Prop:=findIn K (.ref C) f=some none
theorem BK.xt{f:Str}(n:BK K C f):takerIn K C f=some none:=by unfold takerIn;rw[show findIn K (.ref C) f=some none from n];rfl
structure Bt(K:Frag)(C:Addr)(m:Str)(f:Addr):Prop where
 at_:findIn K (.ref C) m=some (some (.ref f))
 fn:isFn K (.ref f)=true
 kp:keepIn K (.ref f)=true
section
variable{fs:List (Str×V)}{f:Str}{v:V}
theorem ZC{b:Bool}(I:Inv X AF σ H s)(e:H a=some (.ins C dx fs))(c:X5 X.K C)(n:BK X.K C f)(l:fs.lookup f=some v)
  (h:∀u s',Inv X AF σ H s'->BI v u->Q u s'):wpAny (model X.prog X.w) A (getAttr (.ref a) f b) Q E s:=by
 obtain⟨mA,O,r,_,_,_⟩:=dZ I.BL e;obtain⟨u,hu,ru⟩:=KI.some_of (v:=v) (o:=mA f) (by rw[<-l];exact r f);exact A5 I.Xf O (c.get f) c.hd n hu (bf ru) (h u _ (I.tok _) ru)
theorem OY{g:Addr}{pl:Sem Bool}{Q:Value×List Value->Shared->Prop}(I:Inv X AF σ H s)(e:H a=some (.ins C dx fs))(c:X5 X.K C)(k:Bt X.K C m g)(l:fs.lookup m=none)
  (h:Q (.ref g,[.ref a]) s):wpAny (model X.prog X.w) A (getMethod (.ref a) m pl) Q E s:=by
 obtain⟨mA,O,r,_,_,_⟩:=dZ I.BL e;have hn:mA m=none:=KI.none_of (by rw[<-l];exact r m);exact p9 I.Xf O (c.get m) k.at_ k.fn hn h
theorem ZD{Q:Unit->Shared->Prop}(I:Inv X AF σ H s)(e:H a=some (.ins C dx fs))(c:X5 X.K C)(n:BK X.K C f)(hl:fs.length<1000)(ry:BI y u)
  (h:∀s',Inv X AF σ (upd H a (.ins C dx (Cg f y fs))) s'->Q () s'):wpAny (model X.prog X.w) A (setAttr (.ref a) f u) Q E s:=by
 obtain⟨mA,O,r,wi,_,ho⟩:=dZ I.BL e;have hz:(fs.map (·.1)).length<=sizeLine:=by rw[length_map,sizeLine_eq];lia
 refine rg I.Xf O c.sa c.po n.xt c.hd wi hz λh' O' sb=>h _ ?_;have hd:∃o,h'.get? dx=some o:=let ⟨o,_,_,e',_⟩:=O'.ns;⟨o,e'⟩;refine I.write (x:=a) (e:=dx) (by rw[e];exact True.intro) (.inr ho) (λb q hb z=>(sb.2 b hb).trans z) hd ?_;refine⟨by rw[AM O.ne];exact ho,?_,O.ne,O'.obj,_,O'.ns,λg=> ?_,λg hg=> ?_⟩
 ·have:=QY f y fs;lia
 ·show KI ((Cg f y fs).lookup g) (if g=f then some u else mA g);rw[QX];by_cases q:g=f
  ·rw[if_pos q,if_pos q];exact ry
  ·rw[if_neg q,if_neg q];exact r g
 ·by_cases q:g=f
  ·rw[q];exact(Nl f y fs).1
  ·refine(Nl f y fs).2 g (wi g λz=>hg ?_);show (if g=f then some u else mA g)=none;rw[if_neg q];exact z
theorem Inv.made(I:Inv X AF σ H s):Inv X AF σ (upd (upd H s.heap.objs.size (.own (s.heap.objs.size+1))) (s.heap.objs.size+1) (.ins C s.heap.objs.size []))
  {s with heap:=(s.heap.push emptyDict).push (instObj C s.heap.objs.size)}:=by
 have e1:(s.heap.push emptyDict).get? s.heap.objs.size=some emptyDict:=get?_push_size s.heap rfl;have e2:((s.heap.push emptyDict).push (instObj C s.heap.objs.size)).get? (s.heap.objs.size+1)=some (instObj C s.heap.objs.size):=by
  have:=get?_push_size (s.heap.push emptyDict) (o:=instObj C s.heap.objs.size) rfl
  rwa [size_push] at this
 have e3:(s.heap.push emptyDict).Ns s.heap.objs.size (λ_=>none):=⟨emptyDict,#[],_,e1,rfl,(λe he=>absurd he (by simp)),λ_=>rfl⟩;have I1:=I.laid (a:=s.heap.objs.size) (o:= .own (s.heap.objs.size+1)) (h':=s.heap.push emptyDict) (t':=s.toks) (λb u q=>get?_push_of_some _ q) (Nat.le_refl _) ⟨_,e1⟩;refine I1.laid (a:=s.heap.objs.size+1) (o:= .ins C s.heap.objs.size []) (t':=s.toks) (λb u q=>get?_push_of_some _ q) (le_of_eq (size_push _ _)) ?_;have ne:s.heap.objs.size≠s.heap.objs.size+1:=ne_of_lt (lt_succ_self _);refine⟨by rw[AM ne,AG],zero_le _,ne,e2,λ_=>none,(Heap.Ns1.of_empty e3).at λo q=>get?_push_of_some _ q,λ_=>True.intro,λy hy=>absurd rfl hy⟩
theorem kZ{f:Str}{pos:Pos}(hb:attributeBase e f env (eval e env)=eval e env)
  (h:wpAny (model prog w) A (eval e env) (λo s₁=>wpAny (model prog w) A (getAttr o f true) Q E s₁) E s):wpAny (model prog w) A (eval (.Attribute e f pos) env) Q E s:=
 Attribute_any_ h (by rw[arm_eval_Attribute,hb])
end
inductive Lo(K:Frag)(H:Hp)(a:Addr)(f:Str)(v:V):Prop | mk:∀C dx fs,H a=some (.ins C dx fs)->X5 K C->BK K C f->fs.lookup f=some v->Lo K H a f v
inductive Ij(C:Addr)(H:Hp)(a:Addr)(m:Str):Prop | mk:∀dx fs,H a=some (.ins C dx fs)->fs.lookup m=none->Ij C H a m
inductive t6(K:Frag)(H:Hp)(a:Addr)(f:Str)(y:V)(o:HO):Prop | mk:∀C dx fs,H a=some (.ins C dx fs)->X5 K C->BK K C f->fs.length<1000->o= .ins C dx (Cg f y fs)->t6 K H a f y o
def uj(K:Frag)(ta:TE)(f:Str):TE:=λσ H Q=>ta σ H λx H1=>c5 x λa=>∃v,Lo K H1 a f v/\Q v H1
def xJ(K:Frag)(ta tv:TE)(f:Str):TS:=λD σ H=>tv σ H λy H1=>ta σ H1 λx H2=>c5 x λa=>∃o,t6 K H2 a f y o/\D.nx σ (upd H2 a o)
def xK(X:Cx)(op:Operator)(rd:V->V->Hp->VK->Prop):Prop:=
 ∀(AF:List (Addr×Obj)) (s:Shared) (σ:St) (H:Hp) (x y:V) (u v:Value) (Q:VK),Inv X AF σ H s->BI x u->BI y v->rd x y H Q->wpAny (model X.prog X.w) X.A (inplaceOp op u v) (EP X AF σ Q) X.xe s
def kb(K:Frag)(ta tv:TE)(rd:V->V->Hp->VK->Prop)(f:Str):TS:=λD σ H=>ta σ H λx H1=>c5 x λa=>∃C dx fs,H1 a=some (.ins C dx fs)/\X5 K C/\BK K C f/\∃v,fs.lookup f=some v/\
 tv σ H1 λy H2=>rd v y H2 λz H3=>∃dx' fs',H3 a=some (.ins C dx' fs')/\fs'.length<1000/\D.nx σ (upd H3 a (.ins C dx' (Cg f z fs')))
section
variable{o:Expr}{f:Str}{pos:Pos}
theorem AQ(he:PE X e ta)(hb:attributeBase e f X.env (eval e X.env)=eval e X.env):PE X (.Attribute e f pos) (uj X.K ta f):=by intro AF s σ H Q I h;refine kZ hb (CK (he AF s σ H _ I h) ?_);rintro u s1 ⟨x,H1,I1,rx,q⟩;replace q:=c5.ex q;obtain⟨a,ex,v,⟨C,dx,fs,ea,c,n,l⟩,q⟩:=q;subst ex;obtain rfl:u=Value.ref a:=rx;exact ZC I1 ea c n l λu' s2 I2 ru=>⟨v,H1,I2,ru,q⟩
theorem BZ(ha:PE X o ta)(hv:PE X value tv)(hs:swapsWith value (some (.Attribute o f pos')) pos.line X.env=pure false):PS X (.Assign [.Attribute o f pos'] value pos) (xJ X.K ta tv f):=by intro AF s σ H D I h;refine plainObj_wpAny_Assign_Attribute (CK (hv AF s σ H _ I h) ?_) hs;rintro u s1 ⟨y,H1,I1,ry,q⟩;refine CK (ha AF s1 σ H1 _ I1 q) ?_;rintro ov s2 ⟨x,H2,I2,rx,q2⟩;replace q2:=c5.ex q2;obtain⟨a,ex,o,⟨C,dx,fs,ea,c,n,l,rfl⟩,q2⟩:=q2;subst ex;obtain rfl:ov=Value.ref a:=rx;exact ZD I2 ea c n l ry λs3 I3=>⟨σ,_,I3,q2⟩
theorem WA{op:Operator}{rd:V->V->Hp->VK->Prop}(ha:PE X o ta)(hv:PE X value tv)(hop:xK X op rd):PS X (.AugAssign (.Attribute o f tpos) op value pos) (kb X.K ta tv rd f):=by intro AF s σ H D I h;refine wpAny_AugAssign_AttributeAny (CK (ha AF s σ H _ I h) ?_);rintro ov s1 ⟨x,H1,I1,rx,q⟩;replace q:=c5.ex q;obtain⟨a,ex,C,dx,fs,ea,c,n,v,l,q⟩:=q;subst ex;obtain rfl:ov=Value.ref a:=rx;refine ZC I1 ea c n l λu s2 I2 ru=>CK (hv AF s2 σ H1 _ I2 q) ?_;rintro w3 s3 ⟨y,H2,I3,ry,q3⟩;refine CK (hop AF s3 σ H2 v y u w3 _ I3 ru ry q3) ?_;rintro w4 s4 ⟨z,H3,I4,rz,dx',fs',ea',l',q4⟩;exact ZD I4 ea' c n l' rz λs5 I5=>⟨σ,_,I5,q4⟩
def xM:V->V->Hp->VK->Prop:=λx y H Q=>V1 x λi=>V1 y λj=>Q (.int (i+j)) H
theorem iz:xK X .Add xM:=by intro AF s σ H x y u v Q I rx ry h;obtain⟨i,rfl,h⟩:=V1.ex h;obtain⟨j,rfl,q⟩:=V1.ex h;obtain⟨t,rfl⟩:=(show ∃t,u=Value.int i t from rx);obtain⟨t',rfl⟩:=(show ∃t',v=Value.int j t' from ry);exact PyProof.Rows.iadd_int ⟨.int (i+j),H,I.tok _,⟨_,rfl⟩,q⟩
end
end L2
namespace L2
open PySem PySem.Spec PyProof.Rows
structure Dc(k:Nat)(A:Around):Prop where
 hd:A.handled=none
 dp:A.depth+3 * k+5<recursionLimit
 un:A.units+16 * k+200<cLine
theorem Dc.mono{k:Nat}(r:Dc k A)(h:j<=k):Dc j A:=⟨r.hd,by have:=r.dp;lia,by have:=r.un;lia⟩
theorem Dc.deeper{k:Nat}{A:Around}(r:Dc (k+1) A)(env:Env):Dc k (A.deeper env):=
 ⟨r.hd,by have:=r.dp;show A.depth+1+3 * k+5<_;lia,by have:=r.un;show A.units+3+16 * k+200<_;lia⟩
theorem Dc.in1{k:Nat}{A:Around}(r:Dc (k+1) A):Dc k A.in1:=
 ⟨r.hd,by have:=r.dp;show A.depth+3 * k+5<_;lia,by have:=r.un;show A.units+1+16 * k+200<_;lia⟩
theorem jM{kw:List (Str×Value)}:(A.under (.builtin "type.__call__" ⟨.ref C::us,kw⟩)).depth=A.depth+1:=by first | rfl | simp[Around.under,Code.weight,Code.isCreation,Code.isGuard,Code.isCaller,Code.frames,Code.isFrame,guardIds]
theorem jN{kw:List (Str×Value)}:(A.under (.builtin "type.__call__" ⟨.ref C::us,kw⟩)).units=A.units+1:=by first | rfl | simp[Around.under,Code.cUnits,Code.frames,Code.isFrame]
theorem Dc.make{k:Nat}(r:Dc (k+1) A)(C:Addr)(us:List Value)(kw:List (Str×Value)):Dc k (A.under (.builtin "type.__call__" ⟨.ref C::us,kw⟩)):=
 ⟨r.hd,by have:=r.dp;rw[jM];lia,by have:=r.un;rw[jN];lia⟩
theorem Dc.depth{k:Nat}{A:Around}(r:Dc k A):A.depth<recursionLimit:=by have:=r.dp;lia
theorem Dc.units{k:Nat}{A:Around}(r:Dc k A):A.units+64<cLine:=by have:=r.un;lia
def mL:TA:=λ_ H Q=>Q [] H
def t7(ta:TE)(tr:TA):TA:=λσ H Q=>ta σ H λx H1=>tr σ H1 λxs H2=>Q (x::xs) H2
section
variable{pos:Pos}
theorem AE:PA X [] mL:=λ_ _ _ _ H Q I h=>Calls.spliced_nil ⟨[],H,I,.nil,h⟩
theorem AB(ha:PE X e te)(hr:PA X es t)(hs:starEach (e::es) X.env=(false,eval e X.env)::starEach es X.env:=by rfl):PA X (e::es) (t7 te t):=by intro pos AF s σ H Q I h;rw[hs];show wpAny _ _ (spliced ((false,eval e X.env)::backTo pos (starEach es X.env))) _ _ s;refine Calls.spliced_cons (CK (ha AF s σ H _ I h) ?_);rintro u s1 ⟨x,H1,I1,r1,q1⟩;exact CK (hr pos AF s1 σ H1 _ I1 q1) λus s2 ⟨xs,H2,I2,r2,q2⟩=>⟨x::xs,H2,I2,.cons r1 r2,q2⟩
def xN(t:TA):TE:=λσ H Q=>t σ H λxs H1=>xs.length<=sizeLine/\∀p,H1 p=none->Q (.ref p) (upd H1 p (.tup xs))
def xO(t:TA):TE:=λσ H Q=>t σ H λxs H1=>xs.length<=sizeLine/\∀p,H1 p=none->Q (.ref p) (upd H1 p (.lst xs))
theorem dH{x1}(h:PA X es t):PE X (.Tuple es x1 pos) (xN t):=by intro AF s σ H Q I hq;refine wpAny_Tuple_spliced (CK (h pos AF s σ H _ I hq) λus s1 ⟨xs,H1,I1,r,z,q⟩=>⟨by rw[<-r.length];exact z,?_⟩);have hf:H1 s1.heap.objs.size=none:=I1.BL.fresh (Nat.le_refl _);refine⟨.ref s1.heap.objs.size,upd H1 s1.heap.objs.size (.tup xs),I1.laid (t':=s1.toks) (λb u e=>get?_push_of_some _ e) (Nat.le_refl _) ?_,rfl,q _ hf⟩;exact⟨z,us,r,⟨_,get?_push_size _ rfl,rfl,_,rfl⟩⟩
theorem BU(h:PA X es t):PE X (.List es pos) (xO t):=by intro AF s σ H Q I hq;refine wpAny_List_spliced (CK (h pos AF s σ H _ I hq) λus s1 ⟨xs,H1,I1,r,z,q⟩=>⟨by rw[<-r.length];exact z,?_⟩);have hf:H1 s1.heap.objs.size=none:=I1.BL.fresh (Nat.le_refl _);refine⟨.ref s1.heap.objs.size,upd H1 s1.heap.objs.size (.lst xs),I1.laid (t':=s1.toks) (λb u e=>get?_push_of_some _ e) (Nat.le_refl _) ?_,rfl,q _ hf⟩;exact⟨z,us,0,r,get?_push_size _ rfl⟩
end
abbrev Sp:=List V->Hp->VK->XK->Prop
abbrev fJ:=List Env->Hp->Shared->XK->Value->Shared->Prop
structure V4(P:Program)(w:World)(K:Frag)(mg:Str->Option Value)(AJ:Heap)(A:Around)(Ai:List Env)(s:Shared)(H:Hp):Prop where
 frames:A.frames=some Ai
 mod:Mod K mg AJ
 bs:∀b o,AJ.get? b=some o->s.heap.get? b=some o/\H b=none
 iQ:AJ.objs.size<=s.heap.objs.size
 OO:s.heap.FunFrames AJ Ai
 iT:∀b∈aH Ai,H b=none
 BL:Ma P w H s.heap
 bare:AllBare s.gens
def CE(Ai:List Env)(P:Program)(w:World)(H:Hp)(s:Shared)(Q:VK)(u:Value)(s':Shared):Prop:=
 ∃v H',s'.os=s.os/\AllBare s'.gens/\Un (aH Ai) [] H H' s.heap s'.heap/\Ma P w H' s'.heap/\BI v u/\Q v H'
def CR(CX:fJ)(Ai:List Env)(P:Program)(w:World)(H:Hp)(s:Shared)(Q:VK)(E:XK)(r:Result)(s':Shared):Prop:=
 match r with
 | .ok (.ret u)=>CE Ai P w H s Q u s'
 | .ok _=>False
 | .error e=>CX Ai H s E e s'
structure Ih(P:Program)(w:World)(K:Frag)(mg:Str->Option Value)(AJ:Heap)(CX:fJ)(k:Nat)(f:Addr)(fd:FuncData)(ps:List Str)(sp:Sp):Prop where
 len:∀vs H Q E,sp vs H Q E->vs.length=ps.length
 run:∀(A:Around) (Ai:List Env) (s:Shared) (H:Hp) (args:Args) (us:List Value) (vs:List V) (Q:VK) (E:XK),Dc k A->V4 P w K mg AJ A Ai s H->BindsTo s fd args (ps.zip us)->Vals vs us->sp vs H Q E->
  codeAny (model P w) A (.call (.ref f) args) (CR CX Ai P w H s Q E) s
theorem V4.make(e:V4 P w K mg AJ A Ai s H)(C:Addr)(us:List Value)(kw:List (Str×Value)):
  V4 P w K mg AJ (A.under (.builtin "type.__call__" ⟨.ref C::us,kw⟩)) Ai s H:=⟨by first | exact e.frames | (simpa[Around.under,Code.envs,Code.isFrame,pushEnvs] using e.frames),e.mod,e.bs,e.iQ,e.OO,e.iT,e.BL,e.bare⟩
theorem V4.in1{P:Program}{w:World}{K:Frag}{mg:Str->Option Value}{AJ:Heap}{A:Around}{Ai:List Env}{s:Shared}{H:Hp}(e:V4 P w K mg AJ A Ai s H):
  V4 P w K mg AJ A.in1 Ai s H:=⟨e.frames,e.mod,e.bs,e.iQ,e.OO,e.iT,e.BL,e.bare⟩
section
theorem Inv.rQ(I:Inv X AF σ H s):V4 X.prog X.w X.K X.mg X.AJ X.A X.stack s H:=
 ⟨I.ok.frames,I.ok.mod,I.bs,Nat.le_trans I.ok.iQ I.sz,I.stack,I.dX,I.BL,I.bare⟩
theorem Inv.after{Q:VK}(I:Inv X AF σ H s)(h:CE X.stack X.prog X.w H s Q u s'):EP X AF σ Q u s':=by obtain⟨v,H',os,bare,un,BL,r,q⟩:=h;obtain⟨hh,g,d,t,os'⟩:=s';obtain rfl:os'=s.os:=os;exact⟨v,H',I.call (h':=hh) (g':=g) (d':=d) (t':=t) (ch:=[]) un BL bare (λb z=>absurd z (by simp)),r,q⟩
end
def t8(sp:Sp)(dvs:List V)(E:XK)(t:TA):TE:=λσ H Q=>t σ H λvs H1=>sp (vs++dvs) H1 Q E
def oM(C:Addr)(m:Str)(sp:Sp)(dvs:List V)(E:XK)(ta:TE)(t:TA):TE:=λσ H Q=>ta σ H λx H1=>c5 x λa=>Ij C H1 a m/\
 t σ H1 λvs H2=>sp (x::(vs++dvs)) H2 Q E
def oN(C:Addr)(sp:Sp)(dvs:List V)(E:XK)(t:TA):TE:=λσ H Q=>t σ H λvs H1=>∀x dx,H1 x=none->H1 dx=none->dx≠x->
 sp (.ref x::(vs++dvs)) (upd (upd H1 dx (.own x)) x (.ins C dx [])) (λv H2=>v= .Fn/\Q (.ref x) H2) E
def AW(K:Frag)(fd:FuncData)(ps:List Str)(ds:List Value):Prop:=
 ∀(s:Shared) (us:List Value),K.In s.heap->(us++ds).length=ps.length->BindsTo s fd ⟨us,[]⟩ (ps.zip (us++ds))
theorem AW.all(h:∀us:List Value,us.length=ps.length->bindArgs fd ⟨us,[]⟩=pure (ps.zip us)):AW K fd ps []:=λs us _ hl=>by rw[append_nil] at hl ⊢;exact .of_eq (h us hl)
def IV(CX:fJ)(X:Cx)(E:XK):Prop:=∀(AF:List (Addr×Obj)) (σ:St) (H:Hp) (s:Shared) (e:Value) (s':Shared),Inv X AF σ H s->CX X.stack H s E e s'->X.xe e s'
section
variable{CX:fJ}{k:Nat}{sp:Sp}{dvs:List V}{ds:List Value}{E:XK}{pos:Pos}{o:Expr}
theorem Yk{Q:VK}{vs:List V}(F:Ih X.prog X.w X.K X.mg X.AJ CX k f fd ps sp)(hr:Dc k X.A)(hb:AW X.K fd ps ds)(hd:Vals dvs ds)(hx:IV CX X E)
  (I:Inv X AF σ H s) (r:Vals vs us) (h:sp (vs++dvs) H Q E):wpAny (model X.prog X.w) X.A (call (.ref f) us) (EP X AF σ Q) X.xe s:=by
 have r2:Vals (vs++dvs) (us++ds):=r.append hd;have hl:(us++ds).length=ps.length:=by rw[<-r2.length];exact F.len _ _ _ _ h
 refine wpAny_call (codeAny_mono (F.run X.A X.stack s H ⟨us,[]⟩ (us++ds) (vs++dvs) Q E hr I.rQ (hb s us I.Xf hl) r2 h) λr s' hq=> ?_);cases r with
 |error e=>exact hx AF σ H s e s' I hq
 |ok fl=>
  cases fl with
  |ret u=>exact I.after hq
  |next=>exact False.elim hq
  |brk=>exact False.elim hq
  |cont=>exact False.elim hq
theorem AV(F:Ih X.prog X.w X.K X.mg X.AJ CX k f fd ps sp)(hr:Dc k X.A)(hg:Gl X x)(hm:X.mg x=some (.ref f))(hk:keepIn X.K (.ref f)=true)(hb:AW X.K fd ps ds)(hd:Vals dvs ds)(hx:IV CX X E)
  (ha:PA X (e::es) t) (hdb:(x==("__debug__":Str))=false:=by decide) (he:starEach (e::es) X.env=(false,eval e X.env)::starEach es X.env:=by rfl) (hpl:(backTo pos (starEach es X.env)).any (·.1)=false:=by rfl):
  PE X (.Call (.Name x p) (e::es) [] pos) (t8 sp dvs E t):=by
 intro AF s σ H Q I h;refine wpAny_Call_Name_kw (SG I hg hm ?_ hdb);refine callWith_K (h₀:=X.AJ) I.ok.mod.tN hk (CK (ha pos AF s σ H _ I h) ?_) he hpl;rintro us s1 ⟨vs,H1,I1,r,q⟩;refine⟨I1.Xf,?_⟩;exact Yk F hr hb hd hx I1 r q
theorem Ac{pl:Sem Bool}(he:PE X o ta)(c:X5 X.K C)(hm:Bt X.K C m f)(F:Ih X.prog X.w X.K X.mg X.AJ CX k f fd ps sp)(hr:Dc k X.A)(hb:AW X.K fd ps ds)(hd:Vals dvs ds)(hx:IV CX X E)(ha:PA X (e::es) t)
  (hst:starEach (e::es) X.env=(false,eval e X.env)::starEach es X.env:=by rfl) (hpl:(backTo pos (starEach es X.env)).any (·.1)=false:=by rfl)
  (ht:eval (.Call (.Attribute o m apos) (e::es) [] pos) X.env=(do
   let ov<-eval o X.env
   standAt apos.atName
   let (f,first)<-holding [ov] (getMethod ov m pl)
   callWith pos f first (backTo pos (starEach (e::es) X.env)) (backToKw pos (keywordEach [] X.env))):=by rfl):
  PE X (.Call (.Attribute o m apos) (e::es) [] pos) (oM C m sp dvs E ta t):=by
 intro AF s σ H Q I h;refine methodCall_KW (pl:=pl) (CK (he AF s σ H _ I h) ?_) ht;rintro u s1 ⟨x,H1,I1,rx,q⟩;replace q:=c5.ex q;obtain⟨a,ex,⟨dx,fs,ea,l⟩,q⟩:=q;subst ex;obtain rfl:u=Value.ref a:=rx;refine OY I1 ea c hm l ?_;refine callWith_K (first:=[.ref a]) (h₀:=X.AJ) I.ok.mod.tN hm.kp (CK (ha pos AF s1 σ H1 _ I1 q) ?_) hst hpl;rintro us s2 ⟨vs,H2,I2,r,q2⟩;refine⟨I2.Xf,?_⟩;exact Yk (us:= .ref a::us) (vs:= .ref a::vs) F hr hb hd hx I2 (.cons rfl r) q2
theorem Ad{pl:Sem Bool}(he:PE X o ta)(c:X5 X.K C)(hm:Bt X.K C m f)(F:Ih X.prog X.w X.K X.mg X.AJ CX k f fd ps sp)(hr:Dc k X.A)(hb:AW X.K fd ps ds)(hd:Vals dvs ds)(hx:IV CX X E)
  (ht:eval (.Call (.Attribute o m apos) [] [] pos) X.env=(do
   let ov<-eval o X.env
   standAt apos.atName
   let (f,first)<-holding [ov] (getMethod ov m pl)
   callWith pos f first (backTo pos (starEach [] X.env)) (backToKw pos (keywordEach [] X.env))):=by rfl):
  PE X (.Call (.Attribute o m apos) [] [] pos) (oM C m sp dvs E ta mL):=by
 intro AF s σ H Q I h;refine methodCall_KW (pl:=pl) (CK (he AF s σ H _ I h) ?_) ht;rintro u s1 ⟨x,H1,I1,rx,q⟩;replace q:=c5.ex q;obtain⟨a,ex,⟨dx,fs,ea,l⟩,q⟩:=q;subst ex;obtain rfl:u=Value.ref a:=rx;refine OY I1 ea c hm l ?_;exact callWith_K0 (first:=[.ref a]) I1.Xf hm.kp (Yk (us:=[.ref a]) (vs:=[.ref a]) F hr hb hd hx I1 (.cons rfl .nil) q)
structure Mk(K:Frag)(C f:Addr):Prop where
 makes:makesIn K C=true
 init:findIn K (.ref C) "__init__"=some (some (.ref f))
 fn:isFn K (.ref f)=true
 kp:keepIn K (.ref C)=true
theorem fe{Q:VK}{vs:List V}(M:Mk X.K C f)(F:Ih X.prog X.w X.K X.mg X.AJ CX k f fd ps sp)(hr:Dc (k+1) X.A)(hb:AW X.K fd ps ds)(hd:Vals dvs ds)
  (hx:IV CX X E) (I:Inv X AF σ H s) (r:Vals vs us)
  (h:∀x dx,H x=none->H dx=none->dx≠x->sp (.ref x::(vs++dvs)) (upd (upd H dx (.own x)) x (.ins C dx [])) (λv H2=>v= .Fn/\Q (.ref x) H2) E):
  wpAny (model X.prog X.w) X.A (call (.ref C) us) (EP X AF σ Q) X.xe s:=by
 have hq:=h (s.heap.objs.size+1) s.heap.objs.size (I.BL.fresh (le_succ _)) (I.BL.fresh (Nat.le_refl _)) (ne_of_lt (lt_succ_self _));have I2:=Inv.made (C:=C) I;have r2:Vals (V.ref (s.heap.objs.size+1)::(vs++dvs)) (Value.ref (s.heap.objs.size+1)::(us++ds)):= .cons rfl (r.append hd);have hl:(Value.ref (s.heap.objs.size+1)::us++ds).length=ps.length:=by have e:=r2.length;rw[F.len _ _ _ _ hq] at e;exact e.symm
 refine wpAny_call (qA (f:=f) I.Xf M.makes M.init (beq_iff_eq.mp M.fn) (codeAny_mono (F.run _ X.stack _ _ ⟨Value.ref (s.heap.objs.size+1)::us,[]⟩ (Value.ref (s.heap.objs.size+1)::(us++ds)) _ _ E (hr.make C us [])
  (I2.rQ.make C us []) (hb _ (Value.ref (s.heap.objs.size+1)::us) I2.Xf hl) r2 hq) λr s' hq'=> ?_))
 cases r with
 |error e=>exact hx AF σ _ _ e s' I2 hq'
 |ok fl=>
  cases fl with
  |ret u=>obtain⟨v,H',I3,rv,ev,q3⟩:=I2.after hq';subst ev;exact⟨rv,⟨V.ref (s.heap.objs.size+1),H',I3,rfl,q3⟩⟩
  |next=>exact False.elim hq'
  |brk=>exact False.elim hq'
  |cont=>exact False.elim hq'
theorem CL(M:Mk X.K C f)(F:Ih X.prog X.w X.K X.mg X.AJ CX k f fd ps sp)(hr:Dc (k+1) X.A)(hg:Gl X x)(hm:X.mg x=some (.ref C))(hb:AW X.K fd ps ds)(hd:Vals dvs ds)(hx:IV CX X E)
  (ha:PA X (e::es) t) (hdb:(x==("__debug__":Str))=false:=by decide) (he:starEach (e::es) X.env=(false,eval e X.env)::starEach es X.env:=by rfl) (hpl:(backTo pos (starEach es X.env)).any (·.1)=false:=by rfl):
  PE X (.Call (.Name x p) (e::es) [] pos) (oN C sp dvs E t):=by
 intro AF s σ H Q I h;refine wpAny_Call_Name_kw (SG I hg hm ?_ hdb);refine callWith_K (h₀:=X.AJ) I.ok.mod.tN M.kp (CK (ha pos AF s σ H _ I h) ?_) he hpl;rintro us s1 ⟨vs,H1,I1,r,q⟩;refine⟨I1.Xf,?_⟩;exact fe M F hr hb hd hx I1 r q
theorem qB(M:Mk X.K C f)(F:Ih X.prog X.w X.K X.mg X.AJ CX k f fd ps sp)(hr:Dc (k+1) X.A)(hg:Gl X x)(hm:X.mg x=some (.ref C))(hb:AW X.K fd ps ds)(hd:Vals dvs ds)(hx:IV CX X E)
  (hdb:(x==("__debug__":Str))=false:=by decide):PE X (.Call (.Name x p) [] [] pos) (oN C sp dvs E mL):=by
 intro AF s σ H Q I h;refine wpAny_Call_Name_kw (SG I hg hm ?_ hdb);exact callWith_K0 I.Xf M.kp (fe (us:=[]) M F hr hb hd hx I .nil h)
end
structure AN(N P:List Str)(sc:Scope):Prop where
 kind:sc.kind= .function
 co:sc.isCoroutine=false
 gen:sc.isGenerator=false
 nd:N.Nodup
 pre:N.take P.length=P
 par:∀x∈P,sc.names.lookup x=some .local\/sc.names.lookup x=some .cell
 vI:∀y∈sc.names,y.2≠ .free
theorem bg{kindOf:Str->Option NameKind}{x:Str}:∀{binds:List (Str×Value)} {m:Str->Option Value},(∀v,(x,v)∉binds)->bindL kindOf binds m x=m x
 | [],_,_=>rfl
 |(n,v)::r,m,h=>by
  unfold bindL;rw[bg λw hw=>h w (mem_cons_of_mem _ hw)];split
  ·have:x≠n:=by rintro rfl;exact h v mem_cons_self
   simp[this]
  ·rfl
theorem bh{kindOf:Str->Option NameKind}{x:Str}:∀{binds:List (Str×Value)} {m:Str->Option Value},(∀v,(x,v)∉binds)->bindC kindOf binds m x=m x
 | [],_,_=>rfl
 |(n,v)::r,m,h=>by
  unfold bindC;rw[bh λw hw=>h w (mem_cons_of_mem _ hw)];split
  ·rfl
  ·have:x≠n:=by rintro rfl;exact h v mem_cons_self
   simp[this]
theorem bj{kindOf:Str->Option NameKind}{x:Str}{v:Value}:∀{P:List Str} {vs:List Value} {i:Nat} {m:Str->Option Value},P.Nodup->P[i]?=some x->vs[i]?=some v->kindOf x=some .local->
  bindL kindOf (P.zip vs) m x=some v
 | [],_,_,_,_,h,_,_=>by simp at h
 |_::_,[],_,_,_,_,h,_=>by simp at h
 |p::P,w::vs,0,m,nd,h1,h2,hk=>by simp at h1 h2;subst h1;subst h2;show bindL kindOf ((p,w)::P.zip vs) m p=_;unfold bindL;rw[bg λv hv=>(nodup_cons.mp nd).1 (of_mem_zip hv).1,if_pos hk];simp
 |p::P,w::vs,i+1,m,nd,h1,h2,hk=>by show bindL kindOf ((p,w)::P.zip vs) m x=_;unfold bindL;exact bj (i:=i) (nodup_cons.mp nd).2 (by simpa using h1) (by simpa using h2) hk
theorem bq{kindOf:Str->Option NameKind}{x:Str}{v:Value}:∀{P:List Str} {vs:List Value} {i:Nat} {m:Str->Option Value},P.Nodup->P[i]?=some x->vs[i]?=some v->kindOf x≠some .local->
  bindC kindOf (P.zip vs) m x=some v
 | [],_,_,_,_,h,_,_=>by simp at h
 |_::_,[],_,_,_,_,h,_=>by simp at h
 |p::P,w::vs,0,m,nd,h1,h2,hk=>by simp at h1 h2;subst h1;subst h2;show bindC kindOf ((p,w)::P.zip vs) m p=_;unfold bindC;rw[bh λv hv=>(nodup_cons.mp nd).1 (of_mem_zip hv).1,if_neg hk];simp
 |p::P,w::vs,i+1,m,nd,h1,h2,hk=>by show bindC kindOf ((p,w)::P.zip vs) m x=_;unfold bindC;exact bq (i:=i) (nodup_cons.mp nd).2 (by simpa using h1) (by simpa using h2) hk
def start(N:List Str)(vs:List V):St:=vs.map some++replicate (N.length - vs.length) none
def KJ(CX:fJ)(P:Program)(w:World)(K:Frag)(mg:Str->Option Value)(AJ:Heap)(N:List Str)(qual:Str)(scope:Scope)(f:Addr)(cd:Value)(A:Around)(Ai:List Env)(s:Shared)(H:Hp)(E:XK):Cx where
 prog:=P
 w:=w
 K:=K
 mg:=mg
 AJ:=AJ
 A:=A.deeper (envOfC qual scope s.heap.objs.size f cd)
 N:=N
 Kc:=s
 YN:=H
 env:=envOfC qual scope s.heap.objs.size f cd
 Ai:=Ai
 stack:=envOfC qual scope s.heap.objs.size f cd::Ai
 ex:=[]
 calm:=true
 fn:=λ_=>true
 pn:=[]
 xe:=λe s'=>wpAny (model P w) (A.deeper (envOfC qual scope s.heap.objs.size f cd)) (leaving (envOfC qual scope s.heap.objs.size f cd) e) (λ_ s''=>CX Ai H s E e s'') (λe' s''=>CX Ai H s E e' s'') s'
theorem fg(h:sc.names.lookup x=some .cell):∃c,(cellsFrom n sc.names []).lookup x=some c:=by have q:=cellsFrom_some sc.names n [] (.inl h);exact isSome_iff_exists.mp q
theorem md{CX:fJ}{s1:Shared}{E:XK}{vs:List V}
  (S:AN N ps scope) (hd:A.handled=none) (e0:V4 P w K mg AJ A Ai s H) (hl:vs.length=ps.length) (r:Vals vs us)
  (x:InCallC s s.heap.objs.size (bindL (envOfC qual scope s.heap.objs.size f cd).kindOf (ps.zip us) λ_=>none) (cellsFrom (s.heap.objs.size+1) scope.names []) (bindC (envOfC qual scope s.heap.objs.size f cd).kindOf (ps.zip us) λ_=>none) s1):
  Inv (KJ CX P w K mg AJ N qual scope f cd A Ai s H E) [] (start N vs) H s1:=by
 have hpl:ps.length<=N.length:=by have:=congrArg List.length S.pre;rw[length_take] at this;lia
 obtain⟨h1,tk,rfl,hk⟩:=x.done;have noA:∀b:Addr,b∉(KJ CX P w K mg AJ N qual scope f cd A Ai s H E).ex:=λb z=>absurd (show b∈([]:List Addr) from z) (by simp);refine⟨⟨e0.mod,S.kind,rfl,rfl,Nat.le_refl _,λy z c h1 h2=> ?_,λy hy=> ?_,λy c _ h=> ?_,λ_=>hd,Around.frames_deeper e0.frames,.inr ⟨rfl,rfl⟩,λb z=>absurd z (noA b),e0.bs,e0.iQ,λb _ _=>noA b,λb z=>absurd z (noA b),e0.OO,e0.iT⟩,
  rfl,e0.bare,Un.kept hk,⟨_,x.toInCall.ns,λi y v h1 h2 h3=> ?_⟩,λy c h=>⟨_,x.cell y c h⟩,e0.BL.fresh (Nat.le_refl _),λy c h=> ?_,λp hp=>absurd (show p∈([]:List (Addr×Obj)) from hp) (by simp),e0.BL.kept hk,?_⟩
 ·exact name_of_addr x.apart (PySem.mem_of_lookup h1) (PySem.mem_of_lookup h2)
 ·have hy:scope.names.lookup y=some .cell\/scope.names.lookup y=some .free:=hy;rcases hy with hy | hy
  ·exact fg hy
  ·exact absurd rfl (S.vI _ (PySem.mem_of_lookup hy))
 ·exact Nat.le_of_lt (x.above y c (PySem.mem_of_lookup h))
 ·have hi:i<vs.length:=by
   unfold start at h2;by_cases hi:i<vs.length
   ·exact hi
   ·rw[getElem?_append_right (by simpa using hi)] at h2;rw[getElem?_replicate] at h2;split at h2<;>cases h2
  have ha:vs[i]?=some v:=by
   unfold start at h2;rw[getElem?_append_left (by simpa using hi),getElem?_map] at h2;cases e:vs[i]? with
   |none=>rw[e] at h2;cases h2
   |some a=>rw[e] at h2;cases h2;rfl
  obtain⟨u,hu,rv⟩:=r.get ha;have hp:ps[i]?=some y:=by rw[<-S.pre,List.getElem?_take_of_lt (by lia)];exact h1
  have ndP:ps.Nodup:=by rw[<-S.pre];exact S.nd.sublist (List.take_sublist _ _)
  refine⟨u,rv,?_⟩;rcases S.par y (mem_of_getElem? hp) with k | k
  ·exact .inl ⟨k,bj ndP hp hu k⟩
  ·obtain⟨c,e⟩:=fg (n:=s.heap.objs.size+1) k;refine .inr ⟨.inl k,c,e,?_⟩;have q:=x.cell y c e;rw[bq ndP hp hu (by show scope.names.lookup y≠_;rw[k];decide)] at q;exact q
 ·exact e0.BL.fresh (Nat.le_of_lt (x.above y c (PySem.mem_of_lookup h)))
 ·unfold start;show _=N.length;rw[length_append,length_map,length_replicate]
  lia
theorem t9{CX:fJ}{k:Nat}{params:Arguments}{body:List Stmt}{dV kV doc He ct oc:Value}{an od:Option Addr}
  {osl:Array (Option Value)} {sp:Sp} (lk:K.lookup f=some ⟨oc,od,.func (fnOf name qual params body scope dV kV doc pm an He ct),osl⟩) (hcd:codeIn K He qual=true) (S:AN N ps scope)
  (len:∀vs H Q E,sp vs H Q E->vs.length=ps.length)
  (hbody:∀(A:Around) (Ai:List Env) (s:Shared) (H:Hp) (vs:List V) (Q:VK) (E:XK),Dc k (A.deeper (envOfC qual scope s.heap.objs.size f He))->sp vs H Q E->
   ∃t,cz (KJ CX P w K mg AJ N qual scope f He A Ai s H E) body t/\t {nx:=λ_ H'=>Q .Fn H',rt:=Q} (start N vs) H):
  Ih P w K mg AJ CX (k+1) f (fnOf name qual params body scope dV kV doc pm an He ct) ps sp:=by
 refine⟨len,λA Ai s H args us vs Q E hr e0 hb r hsp=> ?_⟩;have hl:=len _ _ _ _ hsp;have KX:K.In s.heap:=e0.mod.tN.keeps λb o e=>(e0.bs b o e).1;have lim:s.heap.NoLimit:=e0.mod.nolimit.keeps λb o e=>(e0.bs b o e).1;have hkind:∀y∈ps.zip us,scope.names.lookup y.1=some .local\/(scope.names.lookup y.1=some .cell/\((cellsFrom (s.heap.objs.size+1) scope.names []).lookup y.1).isSome=true):=λ⟨n,v⟩ hy=>by
  rcases S.par n (of_mem_zip hy).1 with q | q
  ·exact .inl q
  ·exact .inr ⟨q,cellsFrom_some _ _ _ (.inl q)⟩
 refine codeAny_call_function hr.depth (KX _ _ lk) rfl S.co S.gen rfl (PySem.W.codeRec_of KX hcd) (hb _ _ _ _ ?_);refine wpAny_newFunctionEnv_cells S.kind hkind λenv he s1 x=> ?_;subst he;refine⟨lim.keeps x.toInCall.keep,codeAny_func ?_⟩;obtain⟨t,ht,hq⟩:=hbody A Ai s H vs Q E (hr.deeper _) hsp;have I:Inv (KJ CX P w K mg AJ N qual scope f He A Ai s H E) [] (start N vs) H s1:=md S hr.hd e0 hl r x;refine wpAny_mono (ht [] s1 (start N vs) H _ I hq) (λfl s' hs=> ?_) λe s' hs=>hs;have fin:∀{σ':St} {H':Hp} {v:V} {u:Value},Inv (KJ CX P w K mg AJ N qual scope f He A Ai s H E) [] σ' H' s'->BI v u->Q v H'->CE Ai P w H s Q u s':=
  λ{σ' H' v u} J rv q=>⟨v,H',J.os,J.bare,J.AJ,J.BL,rv,q⟩
 cases fl with
 |ret u=>obtain⟨v,σ',H',J,rv,q⟩:=hs;exact fin J rv q
 |next=>obtain⟨σ',H',J,q⟩:=hs;exact fin (v:=V.Fn) (u:=Value.none) J rfl q
 |brk=>obtain⟨_,_,_,q⟩:=hs;exact False.elim q
 |cont=>obtain⟨_,_,_,q⟩:=hs;exact False.elim q
end L2
namespace L2
open PySem PySem.Spec PyProof.Rows
section
variable{pos:Pos}{id T:String}{r:List V->Hp->VK->Prop}
def yd(r:List V->Hp->VK->Prop)(t:TA):TE:=λσ H Q=>t σ H λvs H1=>r vs H1 Q
theorem AZ(hc:Ji X (.builtin id) r)(hg:Gl X x)(hm:X.mg x=none)(hv:bootBuiltins x=some (.builtin id))(ha:PA X (e::es) t)(hn:x≠ "__name__":=by decide)(hdb:(x==("__debug__":Str))=false:=by decide)
  (he:starEach (e::es) X.env=(false,eval e X.env)::starEach es X.env:=by rfl) (hpl:(backTo pos (starEach es X.env)).any (·.1)=false:=by rfl):PE X (.Call (.Name x p) (e::es) [] pos) (yd r t):=by
 intro AF s σ H Q I h;refine wpAny_Call_Name_kw (OQ I hg hm hv ?_ hn hdb);exact PyProof.Rows.callWith_builtin1 (CK (ha pos AF s σ H _ I h) λus s1 ⟨vs,H1,I1,r1,q1⟩=>hc AF s1 σ H1 vs us Q I1 r1 q1) he hpl
theorem CM(hc:Ji X (.type T) r)(hg:Gl X x)(hm:X.mg x=none)(hv:bootBuiltins x=some (.type T))(ha:PA X (e::es) t)(hn:x≠ "__name__":=by decide)(hdb:(x==("__debug__":Str))=false:=by decide)
  (he:starEach (e::es) X.env=(false,eval e X.env)::starEach es X.env:=by rfl) (hpl:(backTo pos (starEach es X.env)).any (·.1)=false:=by rfl):PE X (.Call (.Name x p) (e::es) [] pos) (yd r t):=by
 intro AF s σ H Q I h;refine wpAny_Call_Name_kw (OQ I hg hm hv ?_ hn hdb);exact PyProof.Rows.callWith_type1 (CK (ha pos AF s σ H _ I h) λus s1 ⟨vs,H1,I1,r1,q1⟩=>hc AF s1 σ H1 vs us Q I1 r1 q1) he hpl
end
end L2
namespace HT
open PySem PyProof.Rows
section
def fM(n d:Nat):Option Int->Nat
 |none=>d
 |some v=>if v<0 then(v+(n:Int)).toNat else min v.toNat n
theorem fi(n d:Nat):fM n d none=d:=rfl
theorem SH(n d k:Nat):fM n d (some (k:Int))=min k n:=by show (if (k:Int)<0 then((k:Int)+(n:Int)).toNat else min (k:Int).toNat n)=min k n;rw[if_neg (by lia),Int.toNat_natCast]
end
end HT
namespace L2
open PySem PySem.Spec PyProof.Rows
abbrev TO:=St->Hp->(Option Int->Hp->Prop)->Prop
def PO(X:Cx)(e:Option Expr)(t:TO):Prop:=
 ∀(AF:List (Addr×Obj)) (s:Shared) (σ:St) (H:Hp) (Q:Option Int->Hp->Prop),Inv X AF σ H s->t σ H Q->
  wpAny (model X.prog X.w) X.A (evalPart e X.env) (λu s'=>∃o H',Inv X AF σ H' s'/\IsPart u o/\Q o H') X.xe s
def ke:TO:=λ_ H Q=>Q none H
def uA(t:TE):TO:=λσ H Q=>t σ H λx H1=>∃i,x= .int i/\Q (some i) H1
section
variable{lo hi:Option Expr}{tl th:TO}{pos p2:Pos}
theorem kg:PO X none ke:=by intro AF s σ H Q I h;rw[evalPart_none];exact wpAny_pure ⟨none,H,I,.none,h⟩
theorem Lr(h:PE X e te):PO X (some e) (uA te):=by intro AF s σ H Q I hw;rw[evalPart_some];refine CK (h AF s σ H _ I hw) ?_;rintro u s1 ⟨x,H1,I1,r1,q1⟩;obtain⟨i,rfl,q⟩:=q1;obtain⟨t,rfl⟩:=r1;exact⟨some i,H1,I1,.int i t,q⟩
def zM(X:Cx)(r:V->Option Int->Option Int->Hp->VK->Prop):Prop:=
 ∀(AF:List (Addr×Obj)) (s:Shared) (σ:St) (H:Hp) (x:V) (v vl vu:Value) (lo hi:Option Int) (sl:Addr) (Q:VK),Inv X AF σ H s->BI x v->s.heap.IsSliceOf sl vl vu .none->IsPart vl lo->IsPart vu hi->r x lo hi H Q->
  ∃T id,typeLookup (.type T) "__getitem__"=pure (some (.builtin id))/\s.TypeIs v T/\wpAny (model X.prog X.w) X.A (getItem v (.ref sl)) (EP X AF σ Q) X.xe s
def zN(r:V->Option Int->Option Int->Hp->VK->Prop)(te:TE)(tl th:TO):TE:=λσ H Q=>te σ H λx H1=>tl σ H1 λl H2=>th σ H2 λu H3=>r x l u H3 Q
theorem QO{r:V->Option Int->Option Int->Hp->VK->Prop}(hr:zM X r)(he:PE X e te)(hl:PO X lo tl)(hu:PO X hi th):PE X (.Subscript e (.Slice lo hi none p2) pos) (zN r te tl th):=by intro AF s σ H Q I h;refine Subscript_ (CK (he AF s σ H _ I h) ?_);rintro v s1 ⟨x,H1,I1,r1,q1⟩;refine wpAny_Slice (CK (hl AF s1 σ H1 _ I1 q1) ?_);rintro vl s2 ⟨l,H2,I2,pl,q2⟩;refine CK (hu AF s2 σ H2 _ I2 q2) ?_;rintro vu s3 ⟨u,H3,I3,pu,q3⟩;rw[evalPart_none];refine wpAny_pure ?_;have I4:Inv X AF σ H3 {s3 with heap:=s3.heap.push {cls:= .type "slice",data:= .fields #[vl,vu,.none]}}:=I3.kept (t':=s3.toks) λb ob q=>get?_push_of_some _ q;obtain⟨T,id,hT,ht,hg⟩:=hr AF {s3 with heap:=s3.heap.push {cls:= .type "slice",data:= .fields #[vl,vu,.none]}} σ H3 x v vl vu l u s3.heap.objs.size Q I4 r1 (Heap.IsSliceOf.new ..) pl pu q3;show wpAny (model X.prog X.w) X.A (subscriptTail e (.Slice lo hi none p2) v (.ref s3.heap.objs.size)) (EP X AF σ Q) X.xe {s3 with heap:=s3.heap.push {cls:= .type "slice",data:= .fields #[vl,vu,.none]}};exact tail_any (ops:=[.ref s3.heap.objs.size,v]) ht hT hg (by with_unfolding_all rfl)
def UX(xs:List V)(lo hi:Option Int):List V:=(xs.drop (HT.fM xs.length 0 lo)).take (HT.fM xs.length xs.length hi - HT.fM xs.length 0 lo)
theorem gv(xs:List V)(lo hi:Option Int):(UX xs lo hi).length<=xs.length:=by
 unfold UX;rw[length_take,length_drop]
 lia
end
end L2
namespace L2
open PySem PySem.Spec PyProof.Rows
def tT(n:Nat)(i:Int):Option Nat:=if 0<=i then(if i<n then some i.toNat else none) else if -(n:Int)<=i then some (i+n).toNat else none
def iR{α:Type}(xs:List α)(i:Int):Option α:=(tT xs.length i).bind λj=>xs[j]?
theorem kh{i:Int}(h:tT n i=some j):seqIndex? i n=some j/\j<n/\ -(n:Int)<=i/\i<n:=by
 unfold tT at h;by_cases h0:0<=i
 ·rw[if_pos h0] at h;by_cases h1:i<n
  ·rw[if_pos h1] at h;have e:i.toNat=j:=Option.some.inj h;exact⟨by rw[seqIndex_of h0 h1,e],by lia,by lia,h1⟩
  ·rw[if_neg h1] at h;cases h
 ·rw[if_neg h0] at h;by_cases h1: -(n:Int)<=i
  ·rw[if_pos h1] at h;have e:(i+n).toNat=j:=Option.some.inj h;exact⟨by rw[seqIndex_neg (by lia) h1,e],by lia,h1,by lia⟩
  ·rw[if_neg h1] at h;cases h
theorem ki{α:Type}{xs:List α}{i:Int}{v:α}(h:iR xs i=some v):∃j,seqIndex? i xs.length=some j/\xs[j]?=some v/\j<xs.length/\ -(xs.length:Int)<=i/\i<xs.length:=by
 unfold iR at h;cases e:tT xs.length i with
 |none=>rw[e] at h;cases h
 |some j=>rw[e] at h;obtain⟨h1,h2,h3,h4⟩:=kh e;exact⟨j,h1,h,h2,h3,h4⟩
theorem Fp{α:Type}{xs:List α}{v:α}(h:xs[j]?=some v):iR xs (j:Int)=some v:=by
 have hj:j<xs.length:=(List.getElem?_eq_some_iff.mp h).1;have e:tT xs.length (j:Int)=some j:=by unfold tT;rw[if_pos (by lia),if_pos (by lia)];simp
 unfold iR;rw[e];exact h
def rh(b:Expr):Prop:=∀o i,subscripted b false o i=operate [o,i] (getItem o i)
def yT(X:Cx)(r:R2):Prop:=
 ∀(value slice:Expr) (AF:List (Addr×Obj)) (s:Shared) (σ:St) (H:Hp) (x y:V) (v u:Value) (Q:VK),Inv X AF σ H s->BI x v->BI y u->r x y H Q->
  subscripted slice false v u=operate [v,u] (getItem v u)->wpAny (model X.prog X.w) X.A (subscriptTail value slice v u) (EP X AF σ Q) X.xe s
def wq(X:Cx)(id:String)(r:V->List V->Hp->VK->Prop):Prop:=
 ∀(AF:List (Addr×Obj)) (s:Shared) (σ:St) (H:Hp) (x:V) (xs:List V) (v:Value) (us:List Value) (Q:VK),Inv X AF σ H s->BI x v->Vals xs us->r x xs H Q->
  wpAny (model X.prog X.w) X.A (call (.builtin id) (v::us)) (EP X AF σ Q) X.xe s
section
variable{a b:Expr}{tb:TE}{pos:Pos}
theorem BY{r:R2}(hr:yT X r)(ha:PE X a ta)(hb:PE X b tb)(hs:rh b):PE X (.Subscript a b pos) (wm r ta tb):=by intro AF s σ H Q I h;exact Subscript_ (uh ha hb I h λv u s2 x y H2 I2 rx ry q=>hr a b AF s2 σ H2 x y v u Q I2 rx ry q (hs _ _))
inductive zO(K:Frag)(H:Hp)(p:Addr)(i:Int)(v:V):Prop | mk:∀xs,A4 K H p xs->iR xs i=some v->zO K H p i v
def uk(K:Frag):R2:=λx y H Q=>c5 x λp=>V1 y λi=>∃v,zO K H p i v/\Q v H
def um:R2:=λx y H Q=>∃z i c,x= .str z/\y= .int i/\z.length<=sizeLine/\iR z.cps.toList i=some c/\Q (.str ⟨#[c]⟩) H
theorem Av:yT X (uk X.K):=by
 intro value slice AF s σ H x y v u Q I rx ry h hs;obtain⟨p,rfl,h⟩:=c5.ex h;obtain⟨i,rfl,z,⟨xs,hq,he⟩,q⟩:=V1.ex h;cases rx;obtain⟨t,rfl⟩:=ry;obtain⟨A7,r,pl,hz⟩:=I.list hq;obtain⟨j,h1,h2,h3,h4,h5⟩:=ki he;obtain⟨w,ew,rw'⟩:=r.get h2;have hl:=r.length;have hn:=Yj;have fin:EP X AF σ Q w s:=⟨z,H,I,rw',q⟩;by_cases h0:0<=i
 ·have hj:i.toNat=j:=by
   rw[seqIndex_of h0 h5] at h1;exact Option.some.inj h1
  exact item_listR pl.isList h0 (by lia) (by rw[hj];simpa using ew) fin hs
 ·have hj:(i+(A7.toArray.size:Int)).toNat=j:=by
   rw[seqIndex_neg (by lia) h4] at h1;rw[size_toArray,<-hl];exact Option.some.inj h1
  exact subscriptTail_builtinR (x:=w) pl.isList.typeIs slot_list_getitem.lookup
   (wpAny_getItem_list_neg (Q:=λr s'=>r=w/\EP X AF σ Q r s') pl.isList (by lia) (by rw[size_toArray]<;>lia) (by lia) (by rw[hj];simpa using ew) ⟨rfl,fin⟩) hs
theorem i5:yT X um:=by
 intro value slice AF s σ H x y v u Q I rx ry h hs;obtain⟨z,i,c,rfl,rfl,hz,he,q⟩:=h;obtain⟨t,rfl⟩:=rx;obtain⟨t',rfl⟩:=ry;obtain⟨j,h1,h2,h3,h4,h5⟩:=ki he;have hl:z.cps.toList.length=z.length:=by simp[Str.length]
 rw[hl] at h1 h4 h5;have hn:=Yj;exact tail_any (typeIs_str s z t) slot_str_getitem.lookup (getItem_str (c:=c) (by
  have e1:decide (i< -(2 ^ 63:Int))=false:=decide_eq_false (by lia);have e2:decide (i ≥ 2 ^ 63)=false:=decide_eq_false (by lia);rw[e1,e2,Bool.or_false]) (by rw[h1];simpa using h2) ⟨.str ⟨#[c]⟩,H,I.tok _,⟨_,rfl⟩,q⟩) hs
theorem jO(A7:List Value)(n j:Nat)(u:Value):Obj.mapSeq (·.setIfInBounds j u) {cls:= .type "list",data:= .seq A7.toArray n}={cls:= .type "list",data:= .seq (A7.set j u).toArray n}:=by simp[Obj.mapSeq]
theorem Inv.lst{AF:List (Addr×Obj)}{σ:St}{H:Hp}{s:Shared}{p:Addr}{xs:List V}(I:Inv X AF σ H s)(h:H p=some (.lst xs)):
  ∃(A7:List Value) (n:Nat),Vals xs A7/\s.heap.get? p=some {cls:= .type "list",data:= .seq A7.toArray n}/\xs.length<=sizeLine:=by
 obtain⟨z,A7,n,r,e⟩:=I.BL p _ h;exact⟨A7,n,r,e,z⟩
theorem Inv.vJ{p:Addr}{its':List Value}{n':Nat}{f:Obj->Obj}(I:Inv X AF σ H s)(h:H p=some (.lst xs))
  (ho:s.heap.get? p=some {cls:= .type "list",data:= .seq A7.toArray n}) (hf:f {cls:= .type "list",data:= .seq A7.toArray n}={cls:= .type "list",data:= .seq its'.toArray n'}) (r:Vals ys its') (hz:ys.length<=sizeLine) (t:Nat):
  Inv X AF σ (upd H p (.lst ys)) {s with heap:=s.heap.update p f,toks:=t}:=by
 have e:(s.heap.update p f).get? p=some {cls:= .type "list",data:= .seq its'.toArray n'}:=by rw[get?_update_self f ho (by rw[hf]<;>rfl),hf]
 refine I.write (x:=p) (e:=p) (by rw[h];trivial) (.inl rfl) (λb u hb q=>(get?_update_other _ _ (Ne.symm hb)).trans q) ⟨_,e⟩ ?_;exact⟨hz,its',n',r,e⟩
def uB:V->V->V->Hp->(Hp->Prop)->Prop:=λo i v H Q=>∃p xs k j,o= .ref p/\i= .int k/\H p=some (.lst xs)/\tT xs.length k=some j/\Q (upd H p (.lst (xs.set j v)))
theorem set_list:xE X uB:=by
 intro AF s σ H o i v ov iv u Q I ro ri rv h;obtain⟨p,xs,k,j,rfl,rfl,hp,hj,q⟩:=h;cases ro;obtain⟨t,rfl⟩:=ri;obtain⟨A7,n,r,ho,hz⟩:=I.lst hp;obtain⟨h1,h2,h3,h4⟩:=kh hj;have hl:=r.length;have hn:=Yj;have I':Inv X AF σ (upd H p (.lst (xs.set j v))) {s with heap:=s.heap.update p (Obj.mapSeq (·.setIfInBounds j u))}:=
  I.vJ hp ho (jO A7 n j u) (r.set rv j) (by rw[length_set];exact hz) s.toks
 by_cases h0:0<=k
 ·have hk:k.toNat=j:=by
   rw[seqIndex_of h0 h4] at h1;exact Option.some.inj h1
  exact PySem.W.ki_setAt ho h0 (by lia) (by rw[size_toArray,<-hl];exact h4) (by rw[hk];exact⟨_,I',q⟩)
 ·have hk:(k+(A7.toArray.size:Int)).toNat=j:=by
   rw[seqIndex_neg (by lia) h3] at h1;rw[size_toArray,<-hl];exact Option.some.inj h1
  exact PySem.W.ki_setBack ho (by lia) (by rw[size_toArray,<-hl];exact h3) (by lia) (by rw[hk];exact⟨_,I',q⟩)
theorem eG(lo hi:Option Int)(n:Nat):(sliceBounds lo hi none n).1=((HT.fM n 0 lo:Nat):Int)/\(sliceBounds lo hi none n).2.1=((HT.fM n n hi:Nat):Int)/\(sliceBounds lo hi none n).2.2=1:=by
 refine⟨?_,?_,rfl⟩
 ·cases lo with
  |none=>simp[sliceBounds,HT.fM]
  |some i=>
   simp only[sliceBounds,HT.fM,getD_none,show (1:Int)>0 by decide,if_true];by_cases h:i<0
   ·simp only[h,if_true]<;>lia
   ·simp only[h,if_false]<;>lia
 ·cases hi with
  |none=>simp[sliceBounds,HT.fM]
  |some i=>
   simp only[sliceBounds,HT.fM,getD_none,show (1:Int)>0 by decide,if_true];by_cases h:i<0
   ·simp only[h,if_true]<;>lia
   ·simp only[h,if_false]<;>lia
theorem aR(A7:List Value)(lo hi:Option Int):slicePick A7.toArray lo hi none=((A7.drop (HT.fM A7.length 0 lo)).take (HT.fM A7.length A7.length hi - HT.fM A7.length 0 lo)).toArray:=by obtain⟨h1,h2,h3⟩:=eG lo hi A7.toArray.size;unfold slicePick;rw[h1,h2,h3];simp only[sliceRange_one,pick_run,size_toArray]<;>rfl
def xP(K:Frag):V->Option Int->Option Int->Hp->VK->Prop:=λx lo hi H Q=>∃a xs,x= .ref a/\A4 K H a xs/\∀p,H p=none->Q (.ref p) (upd H p (.lst (UX xs lo hi)))
theorem Uh:zM X (xP X.K):=by intro AF s σ H x v vl vu lo hi sl Q I rx hs pl pu h;obtain⟨a,xs,rfl,hx,q⟩:=h;cases rx;obtain⟨A7,r,ht,hz⟩:=I.list hx;have hlen:=r.length;refine⟨"list",_,slot_list_getitem.lookup,ht.isList.typeIs,?_⟩;refine wpAny_getItem_list_slice ht.isList hs pl pu .none (by simp) ?_ (by rw[size_toArray]<;>lia);rw[aR,<-hlen];refine⟨.ref s.heap.objs.size,_,I.laid (t':=s.toks) (o:= .lst (UX xs lo hi)) (λb ob q=>get?_push_of_some _ q) (Nat.le_refl _) ?_,rfl,q _ (I.BL.fresh (Nat.le_refl _))⟩;exact⟨Nat.le_trans (gv xs lo hi) hz,_,0,(r.drop (HT.fM xs.length 0 lo)).take (HT.fM xs.length xs.length hi - HT.fM xs.length 0 lo),get?_push_size _ rfl⟩
def Ww:V->Bool
 | .Fn=>true
 | .bl _=>true
 | .int _=>true
 | .str _=>true
 |_=>false
def mH:V->V->Bool
 | .Fn,.Fn=>true
 | .bl a,.bl b=>a==b
 | .bl a,.int b=>(if a then 1 else 0)==b
 | .int a,.bl b=>a==(if b then 1 else 0)
 | .int a,.int b=>a==b
 | .str a,.str b=>a==b
 |_,_=>false
theorem vK{x:V}(ry:BI y u)(rx:BI x v)(fy:Ww y=true)(fx:Ww x=true):SeqAt.EqAt A s u v (mH y x):=by
 cases y with
 |Fn=>
  cases ry;cases x with
  |Fn=>cases rx;exact SeqAt.EqAt.same _
  |bl b=>cases rx;exact SeqAt.EqAt.none_bool b
  |int b=>obtain⟨t,rfl⟩:=rx;exact SeqAt.EqAt.none_int b t
  |str b=>obtain⟨t,rfl⟩:=rx;exact SeqAt.EqAt.none_str b t
  |_=>exact absurd (show false=true from fx) Bool.false_ne_true
 |bl a=>
  cases ry;cases x with
  |Fn=>cases rx;exact SeqAt.EqAt.bool_none a
  |bl b=>cases rx;exact SeqAt.EqAt.bool_bool a b
  |int b=>obtain⟨t,rfl⟩:=rx;exact SeqAt.EqAt.bool_int a b t
  |str b=>obtain⟨t,rfl⟩:=rx;exact SeqAt.EqAt.bool_str a b t
  |_=>exact absurd (show false=true from fx) Bool.false_ne_true
 |int a=>
  obtain⟨t',rfl⟩:=ry;cases x with
  |Fn=>cases rx;exact SeqAt.EqAt.int_none a t'
  |bl b=>cases rx;exact SeqAt.EqAt.int_bool a t' b
  |int b=>obtain⟨t,rfl⟩:=rx;exact SeqAt.EqAt.int_int a t' b t
  |str b=>obtain⟨t,rfl⟩:=rx;exact SeqAt.EqAt.int_str a t' b t
  |_=>exact absurd (show false=true from fx) Bool.false_ne_true
 |str a=>
  obtain⟨t',rfl⟩:=ry;cases x with
  |Fn=>cases rx;exact SeqAt.EqAt.str_none a t'
  |bl b=>cases rx;exact SeqAt.EqAt.str_bool a t' b
  |int b=>obtain⟨t,rfl⟩:=rx;exact SeqAt.EqAt.str_int a t' b t
  |str b=>obtain⟨t,rfl⟩:=rx;exact SeqAt.EqAt.str_str a t' b t
  |_=>exact absurd (show false=true from fx) Bool.false_ne_true
 |_=>exact absurd (show false=true from fy) Bool.false_ne_true
def iV(x:V)(u:Value):Bool:=match u with
 | .none=>mH .Fn x
 | .bool b=>mH (.bl b) x
 | .int i _=>mH (.int i) x
 | .str z _=>mH (.str z) x
 |_=>false
theorem o3{x:V}(r:BI y u)(f:Ww y=true):iV x u=mH y x:=by
 cases y with
 |Fn=>cases r;rfl
 |bl b=>cases r;rfl
 |int i=>obtain⟨t,rfl⟩:=r;rfl
 |str z=>obtain⟨t,rfl⟩:=r;rfl
 |_=>exact absurd (show false=true from f) Bool.false_ne_true
theorem Ui{x:V}:∀{xs:List V} {us:List Value},Vals xs us->xs.all Ww=true->us.any (iV x)=xs.any λy=>mH y x
 |_,_,.nil,_=>rfl
 |y::xs,u::us,.cons r t,f=>by rw[all_cons,Bool.and_eq_true] at f;rw[any_cons,any_cons,o3 r f.1,Ui t f.2]
theorem QP{A:Around}{s:Shared}{x:V}{v:Value}(rx:BI x v)(fx:Ww x=true):∀{xs:List V} {us:List Value},Vals xs us->xs.all Ww=true->∀u∈us,SeqAt.EqAt A s u v (iV x u)
 |_,_,.nil,_=>λu hu=>by cases hu
 |y::xs,u::us,.cons r t,f=>λu' hu=>by
  rw[all_cons,Bool.and_eq_true] at f;rcases mem_cons.mp hu with rfl | hu
  ·rw[o3 r f.1];exact vK r rx f.1 fx
  ·exact QP rx fx t f.2 u' hu
def mI(x:V)(xs:List V):Bool:=xs.any λy=>mH y x
def ye(K:Frag)(neg:Bool):R2:=λx y H Q=>∃p xs,y= .ref p/\(A4 K H p xs\/YO K H p xs)/\Ww x=true/\xs.all Ww=true/\Q (.bl (if neg then !mI x xs else mI x xs)) H
theorem bt:V2 X (compareOp .In) (ye X.K false):=by
 intro AF s σ H x y v u Q I rx ry h;obtain⟨p,xs,rfl,hq,fx,fs,q⟩:=h;cases ry;rcases hq with hq | hq
 ·obtain⟨A7,r,pl,hz⟩:=I.list hq;refine SeqAt.in_listAt (iV x) pl.isList (λw hw=>QP rx fx r fs w (by simpa using hw)) ⟨.bl _,H,I,rfl,?_⟩;rw[show A7.toArray.any (iV x)=A7.any (iV x) by simp,Ui r fs];exact q
 ·obtain⟨A7,r,pl,hz⟩:=I.tuple hq;refine SeqAt.in_tupleAt (iV x) pl (λw hw=>QP rx fx r fs w (by simpa using hw)) ⟨.bl _,H,I,rfl,?_⟩;rw[show A7.toArray.any (iV x)=A7.any (iV x) by simp,Ui r fs];exact q
theorem Oh:V2 X (compareOp .NotIn) (ye X.K true):=by
 intro AF s σ H x y v u Q I rx ry h;obtain⟨p,xs,rfl,hq,fx,fs,q⟩:=h;cases ry;rcases hq with hq | hq
 ·obtain⟨A7,r,pl,hz⟩:=I.list hq;refine SeqAt.notIn_listAt (iV x) pl.isList (λw hw=>QP rx fx r fs w (by simpa using hw)) ⟨.bl _,H,I,rfl,?_⟩;rw[show A7.toArray.any (iV x)=A7.any (iV x) by simp,Ui r fs];exact q
 ·obtain⟨A7,r,pl,hz⟩:=I.tuple hq;refine SeqAt.notIn_tupleAt (iV x) pl (λw hw=>QP rx fx r fs w (by simpa using hw)) ⟨.bl _,H,I,rfl,?_⟩;rw[show A7.toArray.any (iV x)=A7.any (iV x) by simp,Ui r fs];exact q
theorem Ak:Ji X (.builtin "len") (λxs H Q=>∃p ys,xs=[.ref p]/\(A4 X.K H p ys\/YO X.K H p ys)/\Q (.int ys.length) H):=by
 intro AF s σ H xs us Q I r h;obtain⟨p,ys,rfl,hq,q⟩:=h;obtain⟨u,rfl,rx⟩:=vals1 r;cases rx;have hn:=Yj;rcases hq with hq | hq
 ·obtain⟨A7,r',pl,hz⟩:=I.list hq;have hlen:=r'.length;exact Calls.call_len_list pl.isList (by simp only[size_toArray]<;>lia) ⟨.int ys.length,H,I.tok _,⟨s.toks+1,by rw[size_toArray,hlen]⟩,q⟩
 ·obtain⟨A7,r',pl,hz⟩:=I.tuple hq;have hlen:=r'.length;exact len_tuple pl (by simp only[size_toArray]<;>lia) ⟨.int ys.length,H,I.tok _,⟨s.toks+1,by rw[size_toArray,hlen]⟩,q⟩
theorem U5:Ji X (.builtin "len") (λxs H Q=>∃z,xs=[.str z]/\z.length<=sizeLine/\Q (.int z.length) H):=by intro AF s σ H xs us Q I r h;obtain⟨z,rfl,hz,q⟩:=h;obtain⟨u,rfl,t,rfl⟩:=vals1 r;have hn:=Yj;exact len_str (by lia) ⟨.int z.length,H,I.tok _,⟨_,rfl⟩,q⟩
def yf(K:Frag)(T:String)(x:V)(H:Hp):Prop:=match x with
 | .str _=>T= "str"
 | .int _=>T= "int"
 | .ref p=>(T= "list"/\∃xs,A4 K H p xs)\/(T= "tuple"/\∃o,K.lookup p=some o/\o.cls= .type "tuple"/\o.dict=none)\/
   (T= "dict"/\((∃kvs,H p=some (.dK kvs))\/∃kvs,H p=some (.dT kvs)))\/(T= "set"/\∃S n,H p=some (.set S n))
 |_=>False
theorem o4{T:String}{x:V}(I:Inv X AF σ H s)(r:BI x v)(ty:yf X.K T x H):
  s.TypeIs v T/\∀a,v= .ref a->∃ob,s.heap.get? a=some ob/\ob.dict=none:=by
 cases x with
 |str z=>obtain⟨t,rfl⟩:=r;cases (show T= "str" from ty);exact⟨typeIs_str s z t,λ_ e=>nomatch e⟩
 |int i=>obtain⟨t,rfl⟩:=r;cases (show T= "int" from ty);exact⟨typeIs_int s i t,λ_ e=>nomatch e⟩
 |ref p=>
  cases r;rcases ty with⟨rfl,xs,hq⟩ | ⟨rfl,o,hk,hc,hd⟩ | ⟨rfl,hk⟩ | ⟨rfl,S,n,hk⟩
  ·obtain⟨A7,_,pl,_⟩:=I.list hq;refine⟨pl.isList.typeIs,λa e=> ?_⟩;cases e;obtain⟨o,n,e,c,hd,_⟩:=pl;exact⟨o,e,hd⟩
  ·refine⟨⟨o,I.Xf p o hk,hc⟩,λa e=> ?_⟩;cases e;exact⟨o,I.Xf _ o hk,hd⟩
  ·have z:∃o,s.heap.get? p=some o/\o.ExactDict:=by
    rcases hk with⟨kvs,hk⟩ | ⟨kvs,hk⟩
    ·obtain⟨_,_,_,_,o,_,_,e,ex,_⟩:=I.BL p _ hk;exact⟨o,e,ex⟩
    ·obtain⟨_,_,_,_,o,_,_,e,ex,_⟩:=I.BL p _ hk;exact⟨o,e,ex⟩
   obtain⟨o,e,ex⟩:=z;refine⟨⟨o,e,ex.1⟩,λa e2=> ?_⟩;cases e2;exact⟨o,e,ex.2.1⟩
  ·obtain⟨o,_,_,_,e,ex,_⟩:=I.BL p _ hk;refine⟨⟨o,e,ex.1⟩,λa e2=> ?_⟩;cases e2;exact⟨o,e,ex.2.1⟩
 |_=>exact False.elim ty
def xQ(K:Frag)(T:String)(r:V->List V->Hp->VK->Prop)(to:TE):TE:=λσ H Q=>to σ H λx H1=>yf K T x H1/\r x [] H1 Q
def zP(K:Frag)(T:String)(r:V->List V->Hp->VK->Prop)(to:TE)(t:TA):TE:=λσ H Q=>to σ H λx H1=>yf K T x H1/\t σ H1 λxs H2=>r x xs H2 Q
variable{o:Expr}{T id:String}{r:V->List V->Hp->VK->Prop}
theorem vM(pa:PlainAttrs T)(slot:Slot T name id)(hty:typeOf (.builtin id)=pure (.type "method_descriptor"))(hm:wq X id r)(ho:PE X o to)
  (hbase:attributeBase o name X.env (eval o X.env)=eval o X.env:=by rfl) (hline:(apos.endLine==cpos.line)=true:=by rfl):PE X (.Call (.Attribute o name apos) [] [] cpos) (xQ X.K T r to):=by
 intro AF s σ H Q I h;refine wpAny_Call_method0_late hbase hline (CK (ho AF s σ H _ I h) ?_);rintro v s1 ⟨x,H1,I1,r1,ty,q1⟩;obtain⟨h1,h2⟩:=o4 I1 r1 ty;exact⟨T,id,pa,slot,hty,h1,h2,Calls.callWith_builtin rfl (PySem.evalArgs_none (hm AF s1 σ H1 x [] v [] Q I1 r1 .nil q1))⟩
theorem Ua(pa:PlainAttrs T)(slot:Slot T name id)(hty:typeOf (.builtin id)=pure (.type "method_descriptor"))(hm:wq X id r)(ho:PE X o to)(ha:PA X (e::es) t)
  (hbase:attributeBase o name X.env (eval o X.env)=eval o X.env:=by rfl)
  (hfew:((backTo cpos (starEach (e::es) X.env)).all (λx=> !x.1) && (backToKw cpos (keywordEach [] X.env)).all (λx=>x.1.isSome)
   && decide ((e::es).length+([]:List Keyword).length+(if ([]:List Keyword).isEmpty then 0 else 1)<30))=true:=by rfl)
  (hline:(apos.endLine==cpos.line)=true:=by rfl) (hs:starEach (e::es) X.env=(false,eval e X.env)::starEach es X.env:=by rfl) (hplain:(backTo cpos (starEach es X.env)).any (·.1)=false:=by rfl):
  PE X (.Call (.Attribute o name apos) (e::es) [] cpos) (zP X.K T r to t):=by
 intro AF s σ H Q I h;refine wpAny_Call_method_late hbase hfew hline rfl (CK (ho AF s σ H _ I h) ?_);rintro v s1 ⟨x,H1,I1,r1,ty,q1⟩;obtain⟨h1,h2⟩:=o4 I1 r1 ty;refine⟨T,id,pa,slot,hty,h1,h2,?_⟩;have hA:=ha cpos AF s1 σ H1 _ I1 q1;rw[hs] at hA ⊢;refine Calls.callWith_builtin (by show (false || (backTo cpos (starEach es X.env)).any (·.1))=false;rw[hplain]<;>rfl) (Calls.evalArgs_plain ?_);exact CK hA λus s2 ⟨vs,H2,I2,r2,q2⟩=>hm AF s2 σ H2 x vs v us Q I2 r1 r2 q2
end
end L2
namespace L2
open PySem PySem.Spec PyProof.Rows
def zQ(X:Cx)(id:String)(r:V->List V->Hp->VK->Prop):Prop:=
 ∀(AF:List (Addr×Obj)) (s:Shared) (σ:St) (H:Hp) (x:V) (xs:List V) (v:Value) (us:List Value) (Q:VK),Inv X AF σ H s->BI x v->Vals xs us->r x xs H Q->
  wpAny (model X.prog X.w) X.A (call (.builtin id) (v::us)) (EP X AF σ Q) X.xe s
theorem Vals.one:∀{x:V} {us:List Value},Vals [x] us->∃u,us=[u]/\BI x u
 |_,_,.cons r .nil=>⟨_,rfl,r⟩
theorem Vals.rep{xs:List V}{us:List Value}(h:Vals xs us):∀k:Nat,Vals (replicate k xs).flatten (replicate k us).flatten
 | 0=> .nil
 |k+1=>by rw[replicate_succ,replicate_succ,flatten_cons,flatten_cons];exact Vals.append h (Vals.rep h k)
theorem foldl_rep(A7:List Value):∀(k:Nat) (acc:List Value),
  foldl (λx1 x2=>x1++x2) acc.toArray (replicate k A7.toArray)=(acc++(replicate k A7).flatten).toArray
 | 0,acc=>by simp
 |k+1,acc=>by
  have e:acc.toArray++A7.toArray=(acc++A7).toArray:=by simp
  have e2:(acc++A7)++(replicate k A7).flatten=acc++(replicate (k+1) A7).flatten:=by rw[replicate_succ,flatten_cons,append_assoc]
  rw[<-e2,<-foldl_rep A7 k (acc++A7),<-e,replicate_succ,foldl_cons]
section
variable{zs:List V}
theorem Inv.xR{its':List Value}{f:Array Value->Array Value}(I:Inv X AF σ H s)(hH:H l=some (.lst xs))
  (e:s.heap.get? l=some {cls:= .type "list",data:= .seq A7.toArray n}) (hf:f A7.toArray=its'.toArray) (hv:Vals ys its') (hz:ys.length<=sizeLine):
  Inv X AF σ (upd H l (.lst ys)) {s with heap:=s.heap.update l (Obj.mapSeq f),toks:=t'}:=by
 have q:=PySem.IsL.update e f;rw[hf] at q;refine I.write (x:=l) (e:=l) (by rw[hH];exact trivial) (.inl rfl) (λb' u hb hu=>(get?_update_other s.heap (Obj.mapSeq f) (Ne.symm hb)).trans hu) ⟨_,q⟩ ?_;exact⟨hz,its',_,hv,q⟩
theorem Inv.xS(I:Inv X AF σ H s)(hv:Vals ys A7)(hz:ys.length<=sizeLine):
  Inv X AF σ (upd H s.heap.objs.size (.lst ys)) {s with heap:=s.heap.push {cls:= .type "list",data:= .seq A7.toArray},toks:=t'}:=
 I.laid (λ_ _ q=>get?_push_of_some _ q) (Nat.le_refl _) ⟨hz,A7,0,hv,get?_push_size _ rfl⟩
theorem Inv.fresh(I:Inv X AF σ H s):H s.heap.objs.size=none:=I.BL.fresh (Nat.le_refl _)
theorem Inv.mM(I:Inv X AF σ H s)(hH:H l=some (.lst xs)):xs.length<=sizeLine/\∃(A7:List Value) (n:Nat),Vals xs A7/\xs.length=A7.length/\s.heap.get? l=some {cls:= .type "list",data:= .seq A7.toArray n}:=by obtain⟨z,A7,n,r,e⟩:=I.BL l _ hH;exact⟨z,A7,n,r,r.length,e⟩
theorem fj(h:n<=sizeLine):Builtin.List.listTooLong n=false:=by unfold Builtin.List.listTooLong;exact decide_eq_false (by lia)
end
section
def kj:V->List V->Hp->VK->Prop:=λx vs H Q=>∃l xs y,x= .ref l/\vs=[y]/\H l=some (.lst xs)/\xs.length<sizeLine/\Q .Fn (upd H l (.lst (xs++ [y])))
theorem Ht:zQ X "list.append" kj:=by
 intro AF s σ H x vs v us Q I rx rv h;obtain⟨l,xs,y,rfl,rfl,hH,hz,q⟩:=h;cases rx;obtain⟨u,rfl,ru⟩:=rv.one;obtain⟨z,A7,n,r,hl,e⟩:=I.mM hH;refine call_meets F.slot_list_append ⟨_,e,rfl⟩ F.entry_list_append (F.args_list_append_2 _ _) (PySem.list_append l A7.toArray n u (by rw[size_toArray];lia)) ⟨e,?_⟩;refine⟨.Fn,_,I.xR (its':=A7++ [u]) hH e (by simp) (r.append (.cons ru .nil)) ?_,rfl,q⟩;rw[length_append,List.length_singleton]
 lia
def kl:V->List V->Hp->VK->Prop:=λx vs H Q=>∃l b xs zs,x= .ref l/\vs=[.ref b]/\H l=some (.lst xs)/\H b=some (.lst zs)/\xs.length+zs.length<=sizeLine/\Q .Fn (upd H l (.lst (xs++zs)))
theorem bu:zQ X "list.extend" kl:=by
 intro AF s σ H x vs v us Q I rx rv h;obtain⟨l,b,xs,zs,rfl,rfl,hH,hB,hz,q⟩:=h;cases rx;obtain⟨u,rfl,ru⟩:=rv.one;cases ru;obtain⟨z,A7,n,r,hl,e⟩:=I.mM hH;obtain⟨z2,its2,n2,r2,hl2,e2⟩:=I.mM hB;have hsz:A7.toArray.size+its2.toArray.size<=sizeLine:=by rw[size_toArray,size_toArray];lia
 have hlong:¬(!A7.toArray.isEmpty && Builtin.List.listTooLong (A7.toArray.size+its2.toArray.size))=true:=by rw[fj hsz,Bool.and_false];exact Bool.false_ne_true
 refine call_meets F.slot_list_extend ⟨_,e,rfl⟩ F.entry_list_extend (F.args_list_extend_2 _ _)
  (AutoSeq1.list_extend_list_list_0 l A7.toArray n b its2.toArray n2 hlong (by rw[size_toArray];lia) (by lia)) ⟨e,e2,?_⟩
 refine⟨.Fn,_,I.xR (its':=A7++its2) hH e (by simp) (r.append r2) ?_,rfl,q⟩;rw[length_append]
 lia
def xT:R2:=λx y H Q=>∃l b xs zs,x= .ref l/\y= .ref b/\H l=some (.lst xs)/\H b=some (.lst zs)/\xs.length+zs.length<=sizeLine/\∀p,H p=none->Q (.ref p) (upd H p (.lst (xs++zs)))
theorem Kk:V2 X (binaryOp .Add) xT:=by
 intro AF s σ H x y v u Q I rx ry h;obtain⟨l,b,xs,zs,rfl,rfl,hH,hB,hz,q⟩:=h;cases rx;cases ry;obtain⟨z,A7,n,r,hl,e⟩:=I.mM hH;obtain⟨z2,its2,n2,r2,hl2,e2⟩:=I.mM hB;refine PySem.P.add_list e e2 ?_ (by rw[size_toArray,size_toArray];lia);have ea:A7.toArray++its2.toArray=(A7++its2).toArray:=by simp
 rw[ea];exact⟨.ref _,_,I.xS (t':=s.toks) (r.append r2) (by rw[length_append];lia),rfl,q _ I.fresh⟩
def xU:R2:=λx y H Q=>∃l k xs,x= .ref l/\y= .int k/\H l=some (.lst xs)/\ -(2 ^ 63)<=k/\k<2 ^ 63/\xs.length * k.toNat<=sizeLine/\
 ∀p,H p=none->Q (.ref p) (upd H p (.lst (replicate k.toNat xs).flatten))
theorem len_rep{α:Type}(xs:List α)(k:Nat):(replicate k xs).flatten.length=k * xs.length:=by
 induction k with
 |zero=>simp
 |succ k ih=>rw[replicate_succ,flatten_cons,length_append,ih,Nat.succ_mul,add_comm]
theorem i6:V2 X (binaryOp .Mult) xU:=by
 intro AF s σ H x y v u Q I rx ry h;obtain⟨l,k,xs,rfl,rfl,hH,h1,h2,hz,q⟩:=h;cases rx;obtain⟨t,rfl⟩:=ry;obtain⟨z,A7,n,r,hl,e⟩:=I.mM hH;have hlen:A7.toArray.size * k.toNat<=sizeLine:=by rw[size_toArray,<-hl];exact hz
 have hcap:¬A7.toArray.size * k.toNat>(2 ^ 63 - 1) / 8:=by
  have:(sizeLine:Nat)<=(2 ^ 63 - 1) / 8:=by decide
  lia
 have hfit:¬(!Builtin.List.listFitsIndex k)=true:=by rw[fitsIndex_both h1 h2];exact Bool.false_ne_true
 have hlong:¬Builtin.List.listTooLong (A7.toArray.size * k.toNat)=true:=by rw[fj hlen];exact Bool.false_ne_true
 have hnew:foldl (λx1 x2=>x1++x2) #[] (replicate (if A7.toArray.isEmpty=true then 0 else k.toNat) A7.toArray)=(replicate k.toNat A7).flatten.toArray:=by
  have f0:∀m:Nat,foldl (λx1 x2=>x1++x2) #[] (replicate m A7.toArray)=(replicate m A7).flatten.toArray:=λm=>by have:=foldl_rep A7 m [];rw[nil_append] at this;exact this
  rw[f0];cases A7 with
  |nil=>simp
  |cons a r'=>rw[if_neg (by simp)]
 refine wpAny_binaryOp_repeat_ref (T:= "list") (U:= "int") (by decide) ⟨_,e,rfl⟩ (λs'=>typeIs_int s' k t) noFill_list_mul F.fills_int_mul F.slot_int_rmul repeat_list F.slot_int_index.lookup
  (call_meets F.slot_int_rmul (typeIs_int s k t) F.entry_int_rmul (F.args_int_rmul_2 _ _) (int___rmul___int_list k t l A7.toArray n)
   ⟨e,rfl,⟨_,e,rfl⟩,call_meets F.slot_list_mul ⟨_,e,rfl⟩ F.entry_list_mul (F.args_list_mul_2 _ _) (AutoListH.list___mul___list_int_3 l A7.toArray n k t hfit hcap hlong) ⟨e,?_⟩⟩)
 rw[hnew];exact⟨.ref _,_,I.xS (t':=s.toks) (r.rep k.toNat) (by rw[len_rep,mul_comm];exact hz),rfl,q _ I.fresh⟩
end
end L2
namespace L2
open PySem PySem.Spec PyProof.Rows
theorem Vals.AA:∀{ns:List Int} {us:List Value},Vals (ns.map V.int) us->IntsAre us ns
 | [],us,h=>by rw[map_nil] at h;cases h;exact IntsAre.nil
 |n::ns,us,h=>by
  rw[map_cons] at h;cases h with
  |cons r t=>obtain⟨k,rfl⟩:=r;exact IntsAre.cons n k (Vals.AA t)
theorem U6:∀{us:List Value} {ns:List Int},IntsAre us ns->Vals (ns.map V.int) us
 |_,_,.nil=>by rw[map_nil];exact Paired.nil
 |_,_,.cons n t h=>by rw[map_cons];exact Paired.cons (show BI (V.int n) (Value.int n t) from⟨t,rfl⟩) (U6 h)
theorem Vals.yg:∀{bs:List Bool} {us:List Value},Vals (bs.map V.bl) us->us=bs.map Value.bool
 | [],us,h=>by rw[map_nil] at h;cases h;rfl
 |b::bs,us,h=>by
  rw[map_cons] at h;cases h with
  |cons r t=>
   cases r;rw[Vals.yg t,map_cons]
theorem Vals.mO(r:Vals [V.ref a] us):us=[Value.ref a]:=by
 cases r with
 |cons r t=>
  cases t;cases r;rfl
section
variable{ns:List Int}
theorem rj(hh:A.handled=none)(hl:s.heap.IsList l A7.toArray)(hi:IntsAre A7 ns)
  (h:∀h' tk t',(∀b o,s.heap.get? b=some o->h'.get? b=some o)->Q (.int ns.sum t') {s with heap:=h',toks:=tk}):wpAny (model prog w) A (call (.builtin "sum") [.ref l]) Q E s:=by
 obtain⟨xs,e⟩:=hi.allInts.items;have hn:numsOf (intItems xs).toList=ns:=by rw[<-e];exact hi.numsOf
 rw[nums_intItems] at hn;rw[e] at hl;refine PySem.sum_intListG hh hl λh' tk t' hk=> ?_;have:=h h' tk t' hk;rw[preSum_eq,take_of_length_le (by simp),hn];exact this
theorem rk(hh:A.handled=none)(hl:s.heap.IsList l A7.toArray)(hi:IntsAre A7 ns)(hne:0<ns.length)
  (h:∀h' tk M t',(∀b o,s.heap.get? b=some o->h'.get? b=some o)->M∈ns->(∀a,a∈ns->a<=M)->Q (.int M t') {s with heap:=h',toks:=tk}):wpAny (model prog w) A (call (.builtin "max") [.ref l]) Q E s:=by
 obtain⟨xs,e⟩:=hi.allInts.items;have hn:numsOf (intItems xs).toList=ns:=by rw[<-e];exact hi.numsOf
 rw[nums_intItems] at hn;subst hn;rw[e] at hl;have hsz:0<xs.size:=by simpa using hne
 refine PySem.max_intList hh hl hsz λv h' tk hv hk=> ?_;obtain⟨t,rfl⟩:=intItems_at hv;obtain⟨h1,h2⟩:=argBest_gt (numAt xs) (xs.size - 1);refine h h' tk _ t hk ?_ λa ha=> ?_
 ·rw[numAt_eq];exact PySem.getD_mem (by rw[length_map,Array.length_toList];lia)
 ·obtain⟨j,hj,rfl⟩:=mem_getD ha;rw[length_map,Array.length_toList] at hj;rw[<-numAt_eq];exact h2 j (by lia)
end
section
def xV(K:Frag):List V->Hp->VK->Prop:=λvs H Q=>∃(a:Addr) (ns:List Int),vs=[V.ref a]/\A4 K H a (ns.map V.int)/\Q (.int ns.sum) H
def xW(K:Frag):List V->Hp->VK->Prop:=λvs H Q=>∃(a:Addr) (ns:List Int),vs=[V.ref a]/\A4 K H a (ns.map V.int)/\0<ns.length/\∀m,m∈ns->(∀y,y∈ns->y<=m)->Q (.int m) H
theorem dI(hc:X.calm=true):Ji X (.builtin "sum") (xV X.K):=by intro AF s σ H vs us Q I r h;obtain⟨a,ns,rfl,hs,q⟩:=h;obtain⟨A7,rv,hl,_⟩:=I.list hs;rw[Vals.mO r];exact rj (I.ok.hd hc) hl.isList rv.AA λh' tk t' hk=>⟨.int _,H,I.kept hk,⟨_,rfl⟩,q⟩
theorem o5(hc:X.calm=true):Ji X (.builtin "max") (xW X.K):=by intro AF s σ H vs us Q I r h;obtain⟨a,ns,rfl,hs,hne,q⟩:=h;obtain⟨A7,rv,hl,_⟩:=I.list hs;rw[Vals.mO r];exact rk (I.ok.hd hc) hl.isList rv.AA hne λh' tk m t' hk h1 h2=>⟨.int _,H,I.kept hk,⟨_,rfl⟩,q m h1 h2⟩
end
theorem fk(hl:s.heap.IsList l items)
  (h:∀s₂:Shared,s₂={s with heap:=s.heap.push {cls:= .type "list_iterator",data:= .fields #[.ref l,.int 0 0]}}->
   (s₂.heap.IsListIter s.heap.objs.size l 0/\s₂.heap.IsList l items)->l≠s.heap.objs.size->Q (.ref s.heap.objs.size) s₂):wpAny (model prog w) A (pyIter (.ref l)) Q E s:=by
 have hlt:l<s.heap.objs.size:=by obtain⟨_,e,_⟩:=hl;exact lt_size e
 exact wpAny_pyIter_list hl (h _ rfl ⟨⟨_,get?_push_size _ rfl,rfl,rfl⟩,hl.push _⟩ (ne_of_lt hlt))
theorem Wz{bs:List Bool}(e:A7=bs.map Value.bool):
  TruthOf prog w A (λi v=>A7.toArray[i]?=some v) (λi=>bs.getD i false):=λi v s Q E hv hq=>by
 have hv':A7[i]?=some v:=by simpa using hv
 rw[e,getElem?_map] at hv';obtain⟨b,hb,rfl⟩:=map_eq_some_iff.mp hv';have hg:bs.getD i false=b:=by rw[List.getD_eq_getElem?_getD,hb]<;>rfl
 have hq':Q (bs.getD i false) s:=hq;rw[hg] at hq';exact wpAny_truthy_bool hq'
theorem any_range:∀bs:List Bool,(List.range bs.length).any (λi=>bs.getD i false)=bs.any id
 | []=>rfl
 |b::bs=>by
  rw[length_cons,List.range_succ_eq_map,any_cons,any_map,any_cons,<-any_range bs]
  all_goals rfl
theorem all_range:∀bs:List Bool,(List.range bs.length).all (λi=>bs.getD i false)=bs.all id
 | []=>rfl
 |b::bs=>by
  rw[length_cons,List.range_succ_eq_map,all_cons,List.all_map,all_cons,<-all_range bs]
  all_goals rfl
section
def xX(K:Frag):List V->Hp->VK->Prop:=λvs H Q=>∃(a:Addr) (bs:List Bool),vs=[V.ref a]/\A4 K H a (bs.map V.bl)/\Q (.bl (bs.any id)) H
def xY(K:Frag):List V->Hp->VK->Prop:=λvs H Q=>∃(a:Addr) (bs:List Bool),vs=[V.ref a]/\A4 K H a (bs.map V.bl)/\Q (.bl (bs.all id)) H
theorem i7(hc:X.calm=true):Ji X (.builtin "any") (xX X.K):=by
 intro AF s σ H vs us Q I r h;obtain⟨a,bs,rfl,hs,q⟩:=h;obtain⟨A7,rv,hl,_⟩:=I.list hs;rw[Vals.mO r];have hb:=rv.yg;refine call_any_walk (fk hl.isList λs₂ e2 st hne=> ?_);subst e2;refine⟨_,_,_,_,_,_,_,rfl,Walks.list (A:=X.A.in1) (I.ok.hd hc) _ a hne A7.toArray,st,Wz hb,λh' tk hk=> ?_⟩;refine⟨.bl _,H,I.kept λb o eo=>hk b o (λhmem=> ?_) (get?_push_of_some _ eo),?_,q⟩
 ·rcases mem_cons.mp hmem with e1 | hmem
  ·exact absurd (e1 ▸ lt_size eo) (Nat.lt_irrefl _)
  ·cases hmem
 ·show Value.bool _=Value.bool _;rw[<-any_range,hb,size_toArray,length_map]
theorem vN(hc:X.calm=true):Ji X (.builtin "all") (xY X.K):=by
 intro AF s σ H vs us Q I r h;obtain⟨a,bs,rfl,hs,q⟩:=h;obtain⟨A7,rv,hl,_⟩:=I.list hs;rw[Vals.mO r];have hb:=rv.yg;refine call_all_walk (fk hl.isList λs₂ e2 st hne=> ?_);subst e2;refine⟨_,_,_,_,_,_,_,rfl,Walks.list (A:=X.A.in1) (I.ok.hd hc) _ a hne A7.toArray,st,Wz hb,λh' tk hk=> ?_⟩;refine⟨.bl _,H,I.kept λb o eo=>hk b o (λhmem=> ?_) (get?_push_of_some _ eo),?_,q⟩
 ·rcases mem_cons.mp hmem with e1 | hmem
  ·exact absurd (e1 ▸ lt_size eo) (Nat.lt_irrefl _)
  ·cases hmem
 ·show Value.bool _=Value.bool _;rw[<-all_range,hb,size_toArray,length_map]
end
mutual
inductive Dp(K:Frag)(H:Hp):V->PyData->Prop
 |Fn:Dp K H .Fn .none
 |bl (b:Bool):Dp K H (.bl b) (.bool b)
 |int (i:Int):Dp K H (.int i) (.int i)
 |str (x:Str):Dp K H (.str x) (.str x)
 |lst {a:Addr} {xs:List V} {ds:List PyData}:A4 K H a xs->YW K H xs ds->Dp K H (.ref a) (.list ds)
 |tup {a:Addr} {xs:List V} {ds:List PyData}:YO K H a xs->YW K H xs ds->Dp K H (.ref a) (.tuple ds)
inductive YW(K:Frag)(H:Hp):List V->List PyData->Prop
 |nil:YW K H [] []
 |cons {v:V} {vs:List V} {d:PyData} {ds:List PyData}:Dp K H v d->YW K H vs ds->YW K H (v::vs) (d::ds)
end
section
mutual
theorem Dp.reads(I:Inv X AF σ H s):∀(d:PyData) (v:V) (u:Value),Dp X.K H v d->BI v u->∃as,Reads s.heap u d as
 | .none,_,_,h,r=>by
  cases h;cases r;exact⟨_,Reads.none⟩
 | .bool b,_,_,h,r=>by
  cases h;cases r;exact⟨_,Reads.bool b⟩
 | .int i,_,_,h,r=>by
  cases h;obtain⟨t,rfl⟩:=r;exact⟨_,Reads.int i t⟩
 | .str x,_,_,h,r=>by
  cases h;obtain⟨t,rfl⟩:=r;exact⟨_,Reads.str x t⟩
 | .list ds,_,_,h,r=>by
  cases h with
  |lst hs ha=>
   cases r;obtain⟨A7,rv,⟨o,n,ho,hc,_,hd⟩,_⟩:=I.list hs;obtain⟨as,hr⟩:=Dp.readsAll I ds _ A7 ha rv;exact⟨_,Reads.list ho hc hd hr⟩
 | .tuple ds,_,_,h,r=>by
  cases h with
  |tup hs ha=>
   cases r;obtain⟨A7,rv,⟨o,ho,hc,n,hd⟩,_⟩:=I.tuple hs;obtain⟨as,hr⟩:=Dp.readsAll I ds _ A7 ha rv;exact⟨_,Reads.tuple ho hc hd hr⟩
 | .dict _,_,_,h,_=>by cases h
theorem Dp.readsAll(I:Inv X AF σ H s):∀(ds:List PyData) (vs:List V) (us:List Value),YW X.K H vs ds->Vals vs us->∃as,ReadsAll s.heap us ds as
 | [],_,_,h,r=>by
  cases h;cases r;exact⟨_,ReadsAll.nil⟩
 |d::ds,_,_,h,r=>by
  cases h with
  |cons h1 h2=>
   cases r with
   |cons r1 r2=>obtain⟨as,q1⟩:=Dp.reads I d _ _ h1 r1;obtain⟨bs,q2⟩:=Dp.readsAll I ds _ _ h2 r2;exact⟨_,ReadsAll.cons q1 q2⟩
end
end
section
def xZ(K:Frag):R2:=λx y H Q=>∃d e,Dp K H x d/\Dp K H y e/\SeqAt.shaped d=true/\SeqAt.shaped e=true/\Q (.bl (!PyData.eqv d e)) H
theorem vO(hu:X.A.units+64<cLine):V2 X (compareOp .NotEq) (xZ X.K):=by intro AF s σ H x y v u Q I rx ry h;obtain⟨d,e,hd,he,sd,se,q⟩:=h;obtain⟨as,r1⟩:=Dp.reads I d x v hd rx;obtain⟨bs,r2⟩:=Dp.reads I e y u he ry;exact SeqAt.compareNe_shaped r1 r2 sd se hu ⟨.bl _,H,I,rfl,q⟩
end
end L2
namespace L2
open PySem PySem.Spec PyProof.Rows
abbrev o6(h:Heap)(c:Addr)(v:Option Value):Prop:=h.IsCell c v
def yt(scope sc:Scope):Scope:=
 {scope with names:=scope.names.map λ(n,k)=>if (k== .free && sc.kind== .function && sc.names.lookup n==some .cell) then(n,.cell) else(n,k)}
def B8(cells:List (Str×Addr)):List (Str×NameKind)->List (Str×Addr)->List (Str×Addr)
 | [],acc=>acc
 |(n,k)::r,acc=>if k== .free then B8 cells r ((n,(cells.lookup n).getD 0)::acc) else B8 cells r acc
theorem U7(env:Env)(f:Str×NameKind->List (Str×Addr)->Sem (ForInStep (List (Str×Addr))))
  (hf:∀n k c,f (n,k) c=if k== .free then(do let a<-cellOf env n;pure (.yield ((n,a)::c))) else pure (.yield c)):
  ∀(names:List (Str×NameKind)) (acc:List (Str×Addr)),(∀y∈names,y.2= .free->∃c,env.cells.lookup y.1=some c)->forIn names acc f=pure (B8 env.cells names acc)
 | [],acc,_=>by rw[List.forIn_nil];rfl
 |(n,k)::r,acc,h=>by
  rw[List.forIn_cons,hf];have ih:=λacc=>U7 env f hf r acc λy hy=>h y (mem_cons_of_mem _ hy);unfold B8;by_cases hk:(k==NameKind.free)=true
  ·rw[if_pos hk,if_pos hk];obtain⟨c,hc⟩:=h (n,k) mem_cons_self (by simpa using hk);have e:cellOf env n=pure c:=by unfold cellOf;rw[hc]
   rw[e];have e2:(env.cells.lookup n).getD 0=c:=by rw[hc];rfl
   rw[e2];exact ih _
  ·rw[if_neg hk,if_neg hk];exact ih _
theorem jP(h:∀y∈scope.names,y.2= .free->∃c,env.cells.lookup y.1=some c):closureFor scope env=pure (B8 env.cells scope.names []):=by simp only[closureFor];rw[U7 env _ (λn k c=>rfl) scope.names [] h];rfl
theorem mem_lookup{α:Type}:∀{l:List (Str×α)} {n:Str} {c:α},(n,c)∈l->∃c',l.lookup n=some c'
 |(k,v)::r,n,c,h=>by
  rw[lookup_cons];cases hb:n==k with
  |true=>exact⟨_,rfl⟩
  |false=>
   rcases mem_cons.mp h with e | h
   ·cases e;simp at hb
   ·exact mem_lookup h
theorem Lw{cells:List (Str×Addr)}:∀{names:List (Str×NameKind)} {acc:List (Str×Addr)} {n:Str} {c:Addr},(n,c)∈B8 cells names acc->(n,c)∈acc\/((n,.free)∈names/\c=(cells.lookup n).getD 0)
 | [],_,_,_,h=> .inl h
 |(m,k)::r,acc,n,c,h=>by
  unfold B8 at h;split at h
  ·rename_i hk;have hk:k= .free:=by simpa using hk
   rcases Lw h with h | ⟨h1,h2⟩
   ·rcases mem_cons.mp h with e | h
    ·cases e;exact .inr ⟨hk ▸ mem_cons_self,rfl⟩
    ·exact .inl h
   ·exact .inr ⟨mem_cons_of_mem _ h1,h2⟩
  ·rcases Lw h with h | ⟨h1,h2⟩
   ·exact .inl h
   ·exact .inr ⟨mem_cons_of_mem _ h1,h2⟩
theorem QZ{cells:List (Str×Addr)}:∀{names:List (Str×NameKind)} {acc:List (Str×Addr)} {p:Str×Addr},p∈acc->p∈B8 cells names acc
 | [],_,_,h=>h
 |(m,k)::r,acc,p,h=>by
  unfold B8;split
  ·exact QZ (mem_cons_of_mem _ h)
  ·exact QZ h
theorem Qa{cells:List (Str×Addr)}:∀{names:List (Str×NameKind)} {acc:List (Str×Addr)} {n:Str},(n,.free)∈names->(n,(cells.lookup n).getD 0)∈B8 cells names acc
 |(m,k)::r,acc,n,h=>by
  unfold B8;rcases mem_cons.mp h with e | h
  ·cases e;exact QZ mem_cons_self
  ·split
   ·exact Qa h
   ·exact Qa h
theorem Nm:∀{names:List (Str×NameKind)} {h:Heap} {acc:List (Str×Addr)} {x:Str} {c:Addr},(x,c)∈cellsFrom h.objs.size names acc->
  (x,c)∈acc\/((x,.cell)∈names/\h.objs.size<=c/\o6 (pushCells h names) c none)
 | [],_,_,_,_,h=> .inl h
 |(n,k)::r,h,acc,x,c,hm=>by
  unfold cellsFrom at hm;unfold pushCells;split at hm
  ·rename_i hk;rw[if_pos hk];have hk:k= .cell:=by simpa using hk
   rw[<-size_push h {cls:= .type "cell",data:= .cell none}] at hm;rcases Nm hm with hm | ⟨h1,h2,h3⟩
   ·rcases mem_cons.mp hm with e | hm
    ·cases e;exact .inr ⟨hk ▸ mem_cons_self,Nat.le_refl _,_,pushCells_keeps r _ _ _ (get?_push_size _ rfl),rfl⟩
    ·exact .inl hm
   ·rw[size_push] at h2;exact .inr ⟨mem_cons_of_mem _ h1,le_of_succ_le h2,h3⟩
  ·rename_i hk;rw[if_neg hk];rcases Nm hm with hm | ⟨h1,h2,h3⟩
   ·exact .inl hm
   ·exact .inr ⟨mem_cons_of_mem _ h1,h2,h3⟩
theorem SM:∀{names:List (Str×NameKind)} {n:Nat} {acc:List (Str×Addr)} {p:Str×Addr},p∈acc->p∈cellsFrom n names acc
 | [],_,_,_,h=>h
 |(m,k)::r,n,acc,p,h=>by
  unfold cellsFrom;split
  ·exact SM (mem_cons_of_mem _ h)
  ·exact SM h
theorem WB:∀{names:List (Str×NameKind)} {n:Nat} {acc:List (Str×Addr)} {x:Str},(x,.cell)∈names->∃c,(x,c)∈cellsFrom n names acc
 |(m,k)::r,n,acc,x,h=>by
  unfold cellsFrom;rcases mem_cons.mp h with e | h
  ·cases e;exact⟨n,SM mem_cons_self⟩
  ·split
   ·exact WB h
   ·exact WB h
theorem WC:∀{names:List (Str×NameKind)} {h:Heap} {acc:List (Str×Addr)} {x y:Str} {c:Addr},(∀p∈acc,p.2<h.objs.size)->(∀x y c,(x,c)∈acc->(y,c)∈acc->x=y)->
  (x,c)∈cellsFrom h.objs.size names acc->(y,c)∈cellsFrom h.objs.size names acc->x=y
 | [],_,_,_,_,_,_,hi,h1,h2=>hi _ _ _ h1 h2
 |(n,k)::r,h,acc,x,y,c,hl,hi,h1,h2=>by
  unfold cellsFrom at h1 h2;split at h1
  ·rename_i hk;rw[if_pos hk] at h2;rw[<-size_push h {cls:= .type "cell",data:= .cell none}] at h1 h2;refine WC (h:=h.push _) (λp hp=> ?_) (λx y c a b=> ?_) h1 h2
   ·rw[size_push];rcases mem_cons.mp hp with rfl | hp
    ·exact lt_succ_self _
    ·exact Nat.lt_succ_of_lt (hl p hp)
   ·rcases mem_cons.mp a with e | a<;>rcases mem_cons.mp b with e' | b
    ·cases e;cases e';rfl
    ·cases e;exact absurd (hl _ b) (Nat.lt_irrefl _)
    ·cases e';exact absurd (hl _ a) (Nat.lt_irrefl _)
    ·exact hi _ _ _ a b
  ·rename_i hk;rw[if_neg hk] at h2;exact WC hl hi h1 h2
theorem gw{M:Model}{globals:Addr}{closure:List (Str×Addr)}{func:Option Addr}{code:Value}{around:Env}{builtins:Addr}{Q:Env->Shared->Prop}
  (h:Q (newEnv scope s.heap.objs.size globals (cellsFrom (s.heap.objs.size+1) scope.names closure) qual func code (some around) builtins)
   {s with heap:=pushCells (s.heap.push {cls:= .type "dict",data:= .dict #[]}) scope.names}):
  wpAny M A (newFunctionEnv scope globals closure [] qual func code (some around) builtins) Q E s:=by
 simp only[newFunctionEnv,isSome_some,if_true];refine wpAny_bind (wpAny_alloc ?_);refine wpAny_bind (wpAny_layCells _ (λn k c=>rfl) scope.names closure _ _ ?_);rw[show ({s with heap:=s.heap.push {cls:= .type "dict",data:= .dict #[]}}:Shared).heap.objs.size=s.heap.objs.size+1 from size_push ..];rw[List.forIn_nil];exact wpAny_bind (wpAny_pure (wpAny_pure h))
theorem Qb{sc:Scope}:∀{names:List (Str×NameKind)} {x:Str} {k:NameKind},
  (names.map λ(n,k)=>if (k==NameKind.free && sc.kind== .function && sc.names.lookup n==some .cell) then(n,NameKind.cell) else(n,k)).lookup x=some k->
  ∃k',names.lookup x=some k'/\(k=k'\/(k'= .free/\k= .cell))
 | [],_,_,h=>by simp at h
 |(n,k₀)::r,x,k,h=>by
  have ih:= @Qb sc r x k;have h':List.lookup x ((if (k₀==NameKind.free && sc.kind== .function && sc.names.lookup n==some .cell)=true then(n,NameKind.cell) else(n,k₀))::(r.map _))=some k:=h;cases hx:x==n with
  |true=>
   simp only[lookup_cons,hx];by_cases hc:(k₀==NameKind.free && sc.kind== .function && sc.names.lookup n==some .cell)=true
   ·rw[if_pos hc] at h';simp only[lookup_cons,hx] at h';cases h';simp only[Bool.and_eq_true,beq_iff_eq] at hc;exact⟨k₀,rfl,.inr ⟨hc.1.1,rfl⟩⟩
   ·rw[if_neg hc] at h';simp only[lookup_cons,hx] at h';cases h';exact⟨_,rfl,.inl rfl⟩
  |false=>
   simp only[lookup_cons,hx];by_cases hc:(k₀==NameKind.free && sc.kind== .function && sc.names.lookup n==some .cell)=true
   ·rw[if_pos hc] at h';simp only[lookup_cons,hx] at h';exact ih h'
   ·rw[if_neg hc] at h';simp only[lookup_cons,hx] at h';exact ih h'
structure fV(N:List Str)(sc scope:Scope)(own:List (Str×Nat)):Prop where
 kind:scope.kind= .function
 uniq:∀y∈scope.names,scope.names.lookup y.1=some y.2
 ix:∀p∈own,N[p.2]?=some p.1
 free:∀y∈scope.names,y.2= .free->sc.names.lookup y.1=some .cell\/sc.names.lookup y.1=some .free
 own:∀y∈scope.names,y.2= .local\/y.2= .cell->y.1∈own.map (·.1)\/y.1∉N
def B0(σ:St):List Nat->St
 | []=>σ
 |v::vs=>(B0 σ vs).set v none
theorem Qc(σ:St):∀vs:List Nat,(B0 σ vs).length=σ.length
 | []=>rfl
 |v::vs=>by unfold B0;rw[length_set,Qc σ vs]
theorem WD{σ:St}{i:Nat}{x:V}:∀{vs:List Nat},(B0 σ vs)[i]?=some (some x)->σ[i]?=some (some x)/\i∉vs
 | [],h=>⟨h,by simp⟩
 |v::vs,h=>by
  unfold B0 at h;by_cases hi:v=i
  ·subst hi;by_cases hv:v<(B0 σ vs).length
   ·rw[getElem?_set_self hv] at h;cases h
   ·rw[getElem?_eq_none (by simpa using hv)] at h;cases h
  ·rw[getElem?_set_ne hi] at h;obtain⟨h1,h2⟩:=WD h;exact⟨h1,by simp only[mem_cons,not_or];exact⟨λe=>hi e.symm,h2⟩⟩
abbrev Cx.c6(X:Cx)(s:Shared)(H:Hp)(scope:Scope)(cenv:Env)(fp:List Addr):Cx:={X with Kc:=s,YN:=H,env:=cenv,Ai:=X.stack,ex:=fp,fn:=λx=>scope.names.lookup x==some .cell,pn:=[],xe:=λ_ _=>False}
section
theorem gy{own:List (Str×Nat)}(I:Inv X AF σ H s)(ok:fV X.N X.env.scope scope own)(hN:X.N.Nodup)(hfp:∀b∈fp,Xl X AF H b/\b<s.heap.objs.size):
  Inv (X.c6 s H scope (compEnvC scope (cellsFrom (s.heap.objs.size+1) scope.names (B8 X.env.cells scope.names [])) s.heap.objs.size X.env) fp) [] (B0 σ (own.map (·.2))) H {s with heap:=pushCells (s.heap.push {cls:= .type "dict",data:= .dict #[]}) scope.names}:=by
 have hfree:∀y∈scope.names,y.2= .free->∃c,X.env.cells.lookup y.1=some c:=λy hy e=>by
  rcases ok.free y hy e with k | k
  ·exact I.ok.has _ (.inl k)
  ·exact I.ok.has _ (.inr k)
 generalize hcenv:compEnvC scope (cellsFrom (s.heap.objs.size+1) scope.names (B8 X.env.cells scope.names [])) s.heap.objs.size X.env=cenv;have kp:∀b o,s.heap.get? b=some o->(pushCells (s.heap.push {cls:= .type "dict",data:= .dict #[]}) scope.names).get? b=some o:=λb o e=>pushCells_keeps _ _ _ _ (get?_push_of_some _ e);have hL:cenv.locals=s.heap.objs.size:=by rw[<-hcenv];rfl
 have hcl:cenv.cells=cellsFrom (s.heap.objs.size+1) scope.names (B8 X.env.cells scope.names []):=by rw[<-hcenv];rfl
 have hsc:cenv.scope=yt scope X.env.scope:=by rw[<-hcenv];rfl
 rw[<-size_push s.heap {cls:= .type "dict",data:= .dict #[]}] at hcl;have cm:∀{y c},(y,c)∈B8 X.env.cells scope.names []->X.env.cells.lookup y=some c/\c<s.heap.objs.size:=λ{y c} hm=>by
  rcases Lw hm with hm | ⟨h1,rfl⟩
  ·cases hm
  ·obtain⟨c,hc⟩:=hfree _ h1 rfl;rw[hc];obtain⟨w,z⟩:=I.cell _ _ hc;exact⟨rfl,z.lt⟩
 have mem:∀{y c},cenv.cells.lookup y=some c->(X.env.cells.lookup y=some c/\c<s.heap.objs.size)\/(s.heap.objs.size+1<=c/\o6 (pushCells (s.heap.push {cls:= .type "dict",data:= .dict #[]}) scope.names) c none):=λ{y c} e=>by
  rw[hcl] at e;rcases Nm (PySem.mem_of_lookup e) with hm | ⟨_,h2,h3⟩
  ·exact .inl (cm hm)
  ·rw[size_push] at h2;exact .inr ⟨h2,h3⟩
 have look:∀{y},scope.names.lookup y=some .free->∃c,cenv.cells.lookup y=some c/\X.env.cells.lookup y=some c:=λ{y} hl=>by
  have hy:(y,NameKind.free)∈scope.names:=PySem.mem_of_lookup hl;obtain⟨c',e'⟩:=mem_lookup (SM (names:=scope.names) (n:=(s.heap.push {cls:= .type "dict",data:= .dict #[]}).objs.size) (Qa (cells:=X.env.cells) (acc:=[]) hy));rw[<-hcl] at e';refine⟨c',e',?_⟩;rw[hcl] at e';rcases Nm (PySem.mem_of_lookup e') with hm | ⟨h1,_,_⟩
  ·exact(cm hm).1
  ·have:=ok.uniq _ h1;rw[hl] at this;cases this
 have okB:(X.c6 s H scope cenv fp).Ok:=by
  refine⟨I.ok.mod,by show cenv.scope.kind=_;rw[hsc];exact ok.kind,by show cenv.globals=_;rw[<-hcenv];exact I.ok.glob,by show cenv.builtins=_;rw[<-hcenv];exact I.ok.blt,by show s.heap.objs.size<=cenv.locals;rw[hL];exact Nat.le_refl _,
   λy z c e1 e2=> ?_,λy hy=> ?_,λy c z e=> ?_,I.ok.hd,I.ok.frames,.inl rfl,λb hb=>⟨?_,λy c e z=> ?_⟩,I.bs,Nat.le_trans I.ok.iQ I.sz,λb o e hb=> ?_,λb hb z=> ?_,I.stack,I.dX⟩
  ·have e1:cenv.cells.lookup y=some c:=e1;have e2:cenv.cells.lookup z=some c:=e2;rw[hcl] at e1 e2;refine WC (λp hp=> ?_) (λy z c a b=>I.ok.inj y z c (cm a).1 (cm b).1) (PySem.mem_of_lookup e1) (PySem.mem_of_lookup e2);rw[size_push];exact Nat.lt_succ_of_lt (cm (y:=p.1) (c:=p.2) hp).2
  ·show ∃c,cenv.cells.lookup y=some c;have key:∀k,cenv.kindOf y=some k->(k= .cell\/k= .free)->∃c,cenv.cells.lookup y=some c:=λk hk hk'=>by
    unfold Env.kindOf at hk;rw[hsc] at hk;obtain⟨k',e,r⟩:=Qb hk;have:k'= .cell\/k'= .free:=by
     rcases r with rfl | ⟨rfl,_⟩
     ·exact hk'
     ·exact .inr rfl
    rcases this with rfl | rfl
    ·obtain⟨c,hm⟩:=WB (n:=(s.heap.push {cls:= .type "dict",data:= .dict #[]}).objs.size) (acc:=B8 X.env.cells scope.names []) (PySem.mem_of_lookup e);obtain⟨c',e'⟩:=mem_lookup hm;exact⟨c',by rw[hcl];exact e'⟩
    ·obtain⟨c,h1,_⟩:=look e;exact⟨c,h1⟩
   rcases hy with hy | hy
   ·exact key _ hy (.inl rfl)
   ·exact key _ hy (.inr rfl)
  ·have z:(scope.names.lookup y==some NameKind.cell)=true:=z;have z:scope.names.lookup y=some .cell:=by simpa using z
   have e:cenv.cells.lookup y=some c:=e;rw[hcl] at e;rcases Nm (PySem.mem_of_lookup e) with hm | ⟨_,h2,_⟩
   ·rcases Lw hm with hm | ⟨h1,_⟩
    ·cases hm
    ·have q:=ok.uniq _ h1;rw[z] at q;cases q
   ·rw[size_push] at h2;exact le_of_succ_le h2
  ·show b≠cenv.locals;rw[hL];exact ne_of_lt (hfp b hb).2
  ·have e:cenv.cells.lookup y=some c:=e;rcases mem e with⟨h1,_⟩ | ⟨h1,_⟩
   ·exact(hfp b hb).1.2.2.2.2.1 y c h1 z
   ·have h2:s.heap.objs.size+1<=b:=by rw[<-z];exact h1
    exact absurd (lt_of_lt_of_le (hfp b hb).2 (le_of_succ_le h2)) (Nat.lt_irrefl _)
  ·rcases(hfp b hb).1.2.2.2.1 with z | z
   ·exact I.ok.dA b o e z
   ·exact absurd (lt_of_lt_of_le (lt_size e) (Nat.le_trans I.ok.iQ z)) (Nat.lt_irrefl _)
  ·rcases mem_cons.mp (I.iq b z) with z | z
   ·exact(hfp b hb).1.2.1 z
   ·exact(hfp b hb).1.2.2.1 z
 refine⟨okB,rfl,I.bare,Un.kept kp,⟨λ_=>none,?_,λi y av e1 e2 e3=> ?_⟩,λy c e=> ?_,?_,λy c e=> ?_,λp hp=> ?_,I.BL.kept kp,by rw[Qc];exact I.len⟩
 ·show Ns _ cenv.locals _;rw[hL];exact Heap.Ns.keeps (Heap.Ns.new ..) λb o e=>pushCells_keeps _ _ _ _ e
 ·obtain⟨e2,hne⟩:=WD e2;have hfr:scope.names.lookup y=some .free/\(cenv.kindOf y=some .cell\/cenv.kindOf y=some .free):=by
   have key:∀k,cenv.scope.names.lookup y=some k->k= .local\/k= .cell\/k= .free->scope.names.lookup y=some .free/\(cenv.kindOf y=some .cell\/cenv.kindOf y=some .free):=λk hk hk'=>by
    have hk0:=hk;rw[hsc] at hk;obtain⟨k',e,r⟩:=Qb hk;have no:¬(k'= .local\/k'= .cell):=λhh=>by
     rcases ok.own _ (PySem.mem_of_lookup e) hh with e' | e'
     ·obtain⟨p,hp,hpy⟩:=mem_map.mp e';have e3:=ok.ix p hp;have:p.1=y:=hpy;rw[this] at e3;exact hne (mem_map.mpr ⟨p,hp,Yv hN e3 e1⟩)
     ·exact e' (mem_of_getElem? e1)
    rcases r with rfl | ⟨rfl,rfl⟩
    ·rcases hk' with rfl | rfl | rfl
     ·exact absurd (.inl rfl) no
     ·exact absurd (.inr rfl) no
     ·exact⟨e,.inr hk0⟩
    ·exact⟨e,.inl hk0⟩
   have e3:wZ cenv.scope y:=e3;rcases e3 with e3 | e3 | e3
   ·exact key _ e3 (.inl rfl)
   ·exact key _ e3 (.inr (.inl rfl))
   ·exact key _ e3 (.inr (.inr rfl))
  obtain⟨m,hn,hl⟩:=I.loc;have hvis:wZ X.env.scope y:=(ok.free _ (PySem.mem_of_lookup hfr.1) rfl).elim (λk=> .inr (.inl k)) (λk=> .inr (.inr k));obtain⟨w,r,q⟩:=hl i y av e1 e2 hvis;refine⟨w,r,.inr ⟨hfr.2,?_⟩⟩;obtain⟨c,h1,h2⟩:=look hfr.1;rcases q with⟨k,_⟩ | ⟨_,c',e',z⟩
  ·have k:X.env.scope.names.lookup y=some .local:=k;rcases ok.free _ (PySem.mem_of_lookup hfr.1) rfl with k' | k'<;>rw[show X.env.scope.names.lookup y=_ from k'] at k<;>cases k
  ·rw[h2] at e';cases e';exact⟨c,h1,z.keeps kp⟩
 ·have e:cenv.cells.lookup y=some c:=e;rcases mem e with⟨h1,_⟩ | ⟨_,z⟩
  ·obtain⟨w,z⟩:=I.cell y c h1;exact⟨w,z.keeps kp⟩
  ·exact⟨_,z⟩
 ·show H cenv.locals=none;rw[hL];exact I.BL.fresh (Nat.le_refl _)
 ·have e:cenv.cells.lookup y=some c:=e;rcases mem e with⟨h1,_⟩ | ⟨h1,_⟩
  ·exact I.Hh y c h1
  ·exact I.BL.fresh (le_of_succ_le h1)
 ·exact absurd (show p∈([]:List (Addr×Obj))++ [] from hp) (by simp)
theorem vP{D:Addr}(I:Inv X AF σ H s)(hD:H D=some (.lst xs))(hz:xs.length<sizeLine)(r:BI y v)
  (h:∀s',Inv X AF σ (upd H D (.lst (xs++ [y]))) s'->Q .none s'):wpAny (model X.prog X.w) X.A (call (.builtin "list.append") [.ref D,v]) Q E s:=by
 obtain⟨hz',A7,n,ri,e⟩:=I.BL D _ hD;have hl:=ri.length;refine append_at (hsz:=by rw[size_toArray];lia) e λh' sb ho'=> ?_;refine h {s with heap:=h'} (I.write (t':=s.toks) (by rw[hD];trivial) (.inl rfl) (λb u hb q=>(sb.2 b hb).trans q) ⟨_,ho'⟩ ⟨by rw[length_append];exact hz,A7++ [v],n+1,ri.append (.cons r .nil),?_⟩);rw[ho'];simp
def wu(X:Cx)(ifs:List Expr)(t:TT):Prop:=
 ∀(AF:List (Addr×Obj)) (s:Shared) (σ:St) (H:Hp) (Q:Bool->Hp->Prop),Inv X AF σ H s->t σ H Q->
  wpAny (model X.prog X.w) X.A (forIn ifs true λc r=>if r=true then do let ok<-isTrue c X.env (eval c X.env);pure (ForInStep.yield ok) else pure (ForInStep.yield r)) (TP X AF σ Q) X.xe s
def aP:TT:=λ_ H Q=>Q true H
theorem Ct:wu X [] aP:=λ_ _ _ H _ I h=>wpAny_tests_nil ⟨H,I,h⟩
theorem rm{c:Expr}{t:TT}(h:PT X c t):wu X [c] t:=λAF s σ H Q I hw=>wpAny_tests_one (h AF s σ H Q I hw)
end
theorem mP{α:Type}{t:Sem α}{Q Q':α->Shared->Prop}{M:Model}(h:wpAny M A t Q (λ_ _=>False) s)(hQ:∀a s,Q a s->Q' a s):wpAny M A t Q' E s:=wpAny_mono h hQ λ_ _ z=>False.elim z
theorem eI{R:Result->Shared->Prop}{target:Expr}{pos:Pos}{it acc:Value}(I:Nat->Shared->Prop)
  (turn:∀n s,I n s->wpAny (model prog w) A (pyNext it) (λr s₁=>match r with
   |none=>R (.ok .next) s₁
   |some v=>wpAny (model prog w) A (letOwnedTupleGo target it v) (λ_ s₁'=>wpAny (model prog w) A (assign target env v) (λ_ s₂=>
     wpAny (model prog w) A (forIn ifs true λc r=>if r=true then do let ok<-isTrue c env (eval c env);pure (ForInStep.yield ok) else pure (ForInStep.yield r)) (λok s₃=>
      if ok=true then wpAny (model prog w) A (eval elt env) (λx s₄=>wpAny (model prog w) A (call (.builtin "list.append") [acc,x]) (λ_ s₅=>∃m,m<n/\I m s₅) (notedBy (model prog w) A env λe s'=>R (.error e) s') s₄) (notedBy (model prog w) A env λe s'=>R (.error e) s') s₃
      else ∃m,m<n/\I m s₃) (notedBy (model prog w) A env λe s'=>R (.error e) s') s₂) (notedBy (model prog w) A env λe s'=>R (.error e) s') s₁') (notedBy (model prog w) A env λe s'=>R (.error e) s') s₁) (notedBy (model prog w) A env λe s'=>R (.error e) s') s)
  (n:Nat) (h:I n s):
  codeAny (model prog w) A (.compLoop (.ListComp elt [⟨target,iter,ifs,0⟩] scope pos) 0 it acc env) R s:=by
 refine codeAny_loop rfl I (λn s hI=> ?_) n h;show wpAny _ A ((compTurn (.ListComp elt [⟨target,iter,ifs,0⟩] scope pos) 0 it acc env).onRaise (λx=>do noteFrame x env;theTreesLotGoes x)) _ _ s;refine wpAny_noted ?_;rw[compTurn_list];refine wpAny_bind (wpAny_standAt (wpAny_bind (wpAny_mono (turn n s hI) (λr s₁ h₁=> ?_) λ_ _ h'=>h')));cases r with
 |none=>exact wpAny_pure h₁
 |some v=>
  refine wpAny_bind (wpAny_mono h₁ (λ_ s₁' h₁'=> ?_) λ_ _ h'=>h');refine wpAny_bind (wpAny_mono h₁' (λ_ s₂ h₂=>wpAny_bind (wpAny_mono h₂ (λok s₃ h₃=> ?_) λ_ _ h'=>h')) λ_ _ h'=>h');cases ok with
  |false=>exact wpAny_pure ⟨rfl,h₃⟩
  |true=>exact wpAny_bind (wpAny_bind (wpAny_mono h₃ (λx s₄ h₄=>wpAny_bind (wpAny_mono h₄ (λ_ s₅ h₅=>wpAny_pure (wpAny_pure ⟨rfl,h₅⟩)) λ_ _ h'=>h')) λ_ _ h'=>h'))
section
def yU(wi:TI)(g:TG)(tt:TT)(te:TE)(vs:List Nat):TE:=λσ H Q=>wi σ H λJ H1=>∀D,H1 D=none->∃W:Nat->Nat->Hp->Prop,(∃m,W 0 m (upd H1 D (.lst [])))/\∀i m H,W i m H->
 (J.stop i H/\Q (.ref D) H)\/(J.go i H/\∃Nx:Hp->Prop,(∀H',Nx H'->∃m',m'<m/\W (i+1) m' H')/\∀x H',J.iU i H x H'->g x (B0 σ vs) H' λσ2 H2=>B0 σ2 vs=B0 σ vs/\tt σ2 H2 λb H3=>if b=true then te σ2 H3 λy H4=>∃acc,H4 D=some (.lst acc)/\acc.length<sizeLine/\Nx (upd H4 D (.lst (acc++ [y]))) else Nx H3)
theorem km{Q:VK}{own:List (Str×Nat)}{pos:Pos}{wi:TI}{g:TG}{tt:TT}{use:Option (Value->Sem Unit)}{Qf:Value->Shared->Prop}
  (hc:X.calm=true) (hN:X.N.Nodup) (I:Inv X AF σ H s) (hi:PI X tg iter wi) (ok:fV X.N X.env.scope scope own)
  (hg:∀(s:Shared) (H:Hp) (C:Addr) (cl:List (Str×Addr)) (fp:List Addr),PG (X.c6 s H scope (compEnvC scope cl C X.env) fp) tg g) (ht:∀(s:Shared) (H:Hp) (C:Addr) (cl:List (Str×Addr)) (fp:List Addr),wu (X.c6 s H scope (compEnvC scope cl C X.env) fp) ifs tt)
  (he:∀(s:Shared) (H:Hp) (C:Addr) (cl:List (Str×Addr)) (fp:List Addr),PE (X.c6 s H scope (compEnvC scope cl C X.env) fp) elt te) (hs:∀x,foldedSetIterable iter X.env x=pure x)
  (h:yU wi g tt te (own.map (·.2)) σ H Q)
  (hRR:∀D C s' m H',Inv X AF σ H' s'->Q (.ref D) H'->s'.heap.Ns C m->Xl X AF H' C->compPost (model X.prog X.w) X.A X.xe use Qf (.ref D) C (.ok .next) s'):
  wpAny (model X.prog X.w) X.A (comprehension (.ListComp elt [⟨tg,iter,ifs,0⟩] scope pos) scope X.env pos' (newList []) false (eval iter X.env) use) Qf X.xe s:=by
 have hfree:∀y∈scope.names,y.2= .free->∃c,X.env.cells.lookup y.1=some c:=λy hy e=>by
  rcases ok.free y hy e with k | k
  ·exact I.ok.has _ (.inl k)
  ·exact I.ok.has _ (.inr k)
 refine wpAny_comprehension_free (use:=use) rfl hs (jP hfree) ok.kind (λy hy e=>by rw[ok.uniq y hy,e])
  (CK (hi AF s σ H _ I h) λxv s1 hx=>CK hx λitv s2 h2=> ?_)
 obtain⟨it,fp,tn,J,H2,e,I2,T,st2,f2,q⟩:=h2;subst e;refine wpAny_newObj_type (gw ?_) (by show 0<=sizeLine;decide);generalize hD:s2.heap.objs.size=D;have hDn:H2 D=none:=I2.BL.fresh (le_of_eq hD);obtain⟨W,⟨m0,w0⟩,turn⟩:=q D hDn;generalize hs3:({s2 with heap:=s2.heap.push {cls:= .type "list",data:= .seq ([]:List Value).toArray}}:Shared)=s3;have I3:Inv X AF σ (upd H2 D (.lst [])) s3:=by rw[<-hs3];refine I2.laid (t':=s2.toks) (λb o e=>get?_push_of_some _ e) (le_of_eq hD) ⟨zero_le _,[],0,.nil,?_⟩;rw[<-hD];exact get?_push_size _ rfl
 have h3:s3.heap=s2.heap.push {cls:= .type "list",data:= .seq ([]:List Value).toArray}:=by rw[<-hs3]
 have sz:∀b∈fp,b<s2.heap.objs.size:=λb hb=>by obtain⟨o,e,_⟩:=T.obj _ _ st2 b hb;exact lt_size e
 have f3:∀b∈fp,Xl X AF (upd H2 D (.lst [])) b/\b<s3.heap.objs.size:=λb hb=>by have hlt:=sz b hb;refine⟨⟨?_,(f2 b hb).2⟩,by rw[h3,size_push];exact Nat.lt_succ_of_lt hlt⟩;rw[AM (by rw[<-hD];exact ne_of_lt hlt)];exact(f2 b hb).1
 have st3:tn 0 s3.heap:=T.keep _ _ _ st2 λb _ o e=>by rw[h3];exact get?_push_of_some _ e
 have I4:=gy I3 ok hN f3;have pg:=hg s3 (upd H2 D (.lst [])) s3.heap.objs.size (cellsFrom (s3.heap.objs.size+1) scope.names (B8 X.env.cells scope.names [])) fp;have pt:=ht s3 (upd H2 D (.lst [])) s3.heap.objs.size (cellsFrom (s3.heap.objs.size+1) scope.names (B8 X.env.cells scope.names [])) fp;have pe:=he s3 (upd H2 D (.lst [])) s3.heap.objs.size (cellsFrom (s3.heap.objs.size+1) scope.names (B8 X.env.cells scope.names [])) fp;show codeAny _ _ (.compStart (.ListComp elt [⟨tg,iter,ifs,0⟩] scope pos) 0 (.ref it) (.ref D) (compEnvC scope (cellsFrom (s3.heap.objs.size+1) scope.names (B8 X.env.cells scope.names [])) s3.heap.objs.size X.env)) (compPost (model X.prog X.w) X.A X.xe use Qf (.ref D) s3.heap.objs.size) {s3 with heap:=pushCells (s3.heap.push {cls:= .type "dict",data:= .dict #[]}) scope.names};have nfp:∀b∈fp,(upd H2 D (.lst [])) b=none:=λb hb=>(f3 b hb).1.1;generalize hce:compEnvC scope (cellsFrom (s3.heap.objs.size+1) scope.names (B8 X.env.cells scope.names [])) s3.heap.objs.size X.env=ce at I4 pg pt pe ⊢;have cL:ce.locals=s3.heap.objs.size:=by subst hce;rfl
 generalize hH3:upd H2 D (.lst [])=H3 at I3 I4 pg pt pe w0 nfp f3;generalize hs4:({s3 with heap:=pushCells (s3.heap.push {cls:= .type "dict",data:= .dict #[]}) scope.names}:Shared)=s4 at I4 ⊢;have st4:tn 0 s4.heap:=T.keep _ _ _ st3 λb _ o e=>by rw[<-hs4];exact pushCells_keeps _ _ _ _ (get?_push_of_some _ e)
 have stat:∀{σ':St} {H':Hp} {s':Shared},Inv (X.c6 s3 H3 scope ce fp) [] σ' H' s'->(∀b∈fp,H' b=none)->∀b∈fp,Xl (X.c6 s3 H3 scope ce fp) [] H' b:=λ{σ' H' s'} I' hn b hb=>⟨hn b hb,(I'.ok.tP b hb).1,I'.ok.dB b hb,.inl hb,λx c e=>(I'.ok.tP b hb).2 x c e,λp hp=>absurd (show p∈([]:List (Addr×Obj))++ [] from hp) (by simp)⟩
 have loop:codeAny (model X.prog X.w) X.A (.compLoop (.ListComp elt [⟨tg,iter,ifs,0⟩] scope pos) 0 (.ref it) (.ref D) ce) (compPost (model X.prog X.w) X.A X.xe use Qf (.ref D) s3.heap.objs.size) s4:=by
  refine eI (λn s'=>∃i H',Inv (X.c6 s3 H3 scope ce fp) [] (B0 σ (own.map (·.2))) H' s'/\tn i s'.heap/\(∀b∈fp,H' b=none)/\W i n H') ?_ m0 ⟨0,H3,I4,st4,nfp,w0⟩;rintro n s5 ⟨i,H5,I5,st5,n5,w5⟩;rcases turn i n H5 w5 with⟨stop,qq⟩ | ⟨go,Nx,hNx,step⟩
  ·have td:=T.done (X.c6 s3 H3 scope ce fp) rfl rfl rfl hc i [] s5 _ H5 (λ_ _=>False) I5 (stat I5 n5) st5 stop;refine mP td ?_;rintro r s6 ⟨hr,I6⟩;subst hr;have I7:Inv X AF σ H5 s6:=I3.kG (ch:=fp) I6.os I6.AJ I6.BL I6.bare λb hb=>⟨(f3 b hb).1.2.2.2.1,(f3 b hb).1.2.1,(f3 b hb).1.2.2.2.2.1,(f3 b hb).1.2.2.2.2.2⟩;have nC:H5 s3.heap.objs.size=none:=by
    have z:H5 ce.locals=none:=I6.free;rw[cL] at z;exact z
   obtain⟨m,hn,_⟩:=I6.loc;have hn:s6.heap.Ns ce.locals m:=hn;rw[cL] at hn;exact hRR D s3.heap.objs.size s6 m H5 I7 qq hn (I3.mK (Nat.le_refl _) nC)
  ·have ti:=T.item (X.c6 s3 H3 scope ce fp) rfl rfl rfl hc i [] s5 _ H5 (λ_ _=>False) I5 (stat I5 n5) st5 go;refine mP ti ?_;rintro r s6 ⟨u,hr,h6⟩;subst hr;refine mP h6 ?_;rintro _ s7 ⟨x,H7,I7,r7,y7,st7,n7⟩;have I7':=I7.pinned (stat I7 n7) (T.obj _ _ st7);refine mP (pg _ s7 _ H7 x u _ I7' r7 (step x H7 y7)) ?_;rintro _ s8 ⟨σ8,H8,I8,hw8,q8⟩;refine mP (pt _ s8 σ8 H8 _ I8 q8) ?_;rintro b s9 ⟨H9,I9,q9⟩;have fin:∀{s':Shared} {H':Hp},Inv (X.c6 s3 H3 scope ce fp) ([]++Yg fp s7.heap) σ8 H' s'->Nx H'->∃m,m<n/\∃i H',Inv (X.c6 s3 H3 scope ce fp) [] (B0 σ (own.map (·.2))) H' s'/\tn i s'.heap/\(∀b∈fp,H' b=none)/\W i m H':=λ{s' H'} I' nx=>by
    obtain⟨m',hm,w'⟩:=hNx H' nx;have pin':∀b∈fp,∀o,s7.heap.get? b=some o->s'.heap.get? b=some o/\H' b=none:=λb hb o e=>
     let z:=I'.pin (b,o) (mem_append_right _ (mem_append_right _ (T3 hb e)))
     ⟨z.1,z.2.1⟩
    have hl:(B0 σ (own.map (·.2))).length=σ8.length:=by rw[<-hw8,Qc]
    refine⟨m',hm,i+1,H',(I'.Us (AF:=[])).weak hl (λj v e=> ?_),T.keep _ _ _ st7 λb hb o e=>(pin' b hb o e).1,λb hb=> ?_,w'⟩
    ·rw[<-hw8] at e;exact(WD e).1
    ·obtain⟨o,e,_⟩:=T.obj _ _ st7 b hb;exact(pin' b hb o e).2
   cases b with
   |false=>simp only[Bool.false_eq_true,if_false] at q9 ⊢;exact fin I9 q9
   |true=>simp only[if_true] at q9 ⊢;refine mP (pe _ s9 σ8 H9 _ I9 q9) ?_;rintro z s10 ⟨yv,H10,I10,r10,acc,hD10,hz10,nx⟩;exact vP (X:=X.c6 s3 H3 scope ce fp) I10 hD10 hz10 r10 λs11 I11=>fin I11 nx
 exact codeAny_compStart_list loop (T.self X.A 0 _ _ _ st4 loop)
theorem Jk{own:List (Str×Nat)}{pos:Pos}{wi:TI}{g:TG}{tt:TT}(hc:X.calm=true)(hN:X.N.Nodup)(hi:PI X tg iter wi)(ok:fV X.N X.env.scope scope own)
  (hg:∀(s:Shared) (H:Hp) (C:Addr) (cl:List (Str×Addr)) (fp:List Addr),PG (X.c6 s H scope (compEnvC scope cl C X.env) fp) tg g) (ht:∀(s:Shared) (H:Hp) (C:Addr) (cl:List (Str×Addr)) (fp:List Addr),wu (X.c6 s H scope (compEnvC scope cl C X.env) fp) ifs tt)
  (he:∀(s:Shared) (H:Hp) (C:Addr) (cl:List (Str×Addr)) (fp:List Addr),PE (X.c6 s H scope (compEnvC scope cl C X.env) fp) elt te) (hs:∀x,foldedSetIterable iter X.env x=pure x:=by intro _;rfl):
  PE X (.ListComp elt [⟨tg,iter,ifs,0⟩] scope pos) (yU wi g tt te (own.map (·.2))):=by
 intro AF s σ H Q I h;rw[eval_ListComp];refine km hc hN I hi ok hg ht he hs h λD C s' m H' I' q hn f=>⟨m,hn,λh'' sb=> ?_⟩;obtain⟨f0,f1,f2,f3,f4,f5⟩:=f;exact⟨.ref D,H',I'.turned (t':=s'.toks) (λb o hb e=>(sb.2 b hb).trans e) f0 f1 f3 f4 f5,rfl,q⟩
theorem fm{y:Str}{py:Pos}{own:List (Str×Nat)}{pos spos:Pos}{wi:TI}{g:TG}{tt:TT}(hc:X.calm=true)(hN:X.N.Nodup)(hy:X.N[i]?=some y)(hyl:X.env.scope.names.lookup y=some .local)
  (hsw:swapsWith (.ListComp elt [⟨tg,iter,ifs,0⟩] scope pos) (some (.Name y py)) spos.line X.env=pure true) (hi:PI X tg iter wi) (ok:fV X.N X.env.scope scope own)
  (hg:∀(s:Shared) (H:Hp) (C:Addr) (cl:List (Str×Addr)) (fp:List Addr),PG (X.c6 s H scope (compEnvC scope cl C X.env) fp) tg g) (ht:∀(s:Shared) (H:Hp) (C:Addr) (cl:List (Str×Addr)) (fp:List Addr),wu (X.c6 s H scope (compEnvC scope cl C X.env) fp) ifs tt)
  (he:∀(s:Shared) (H:Hp) (C:Addr) (cl:List (Str×Addr)) (fp:List Addr),PE (X.c6 s H scope (compEnvC scope cl C X.env) fp) elt te) (hs:∀x,foldedSetIterable iter X.env x=pure x:=by intro _;rfl):
  PS X (.Assign [.Name y py] (.ListComp elt [⟨tg,iter,ifs,0⟩] scope pos) spos) (oA (yU wi g tt te (own.map (·.2))) (QD i)):=by
 intro AF s σ H D I h;rw[exec_Assign_Name_used _ _ _ _ hsw];refine wpAny_bind (wpAny_standAt (wpAny_bind ?_));show wpAny _ X.A (do let _<-comprehension (.ListComp elt [⟨tg,iter,ifs,0⟩] scope pos) scope X.env (firstIterPos [⟨tg,iter,ifs,0⟩] pos) (newList []) false (eval iter X.env) (some (assign (.Name y py) X.env))) _ _ s;have h:yU wi g tt te (own.map (·.2)) σ H (λx H1=>QD i x σ H1 D.nx):=h;refine wpAny_bind (CK (km (Qf:=λ_ s'=>SP X AF D .next s') hc hN I hi ok hg ht he hs h λL C s' m H' I' q hn f=> ?_) λ_ s' hq=>wpAny_pure (wpAny_pure hq));show wpAny _ _ (assign (.Name y py) X.env (.ref L)) _ _ _;refine wpAny_assign_Name (bZ (v:=V.ref L) I' hN hy (.inl hyl) rfl ?_ (.inr hyl));rintro s2 I2 ⟨a,sb,ha⟩;obtain⟨f0,f1,f2,f3,f4,f5⟩:=f;have haC:C≠a:=by
  rcases ha with z | z
  ·rw[z];exact f1
  ·exact λe=>f4 y a z e.symm
 refine⟨m,hn.sameBut sb haC,λh3 sb3=> ?_⟩;exact⟨_,H',I2.turned (t':=s2.toks) (λb o hb e=>(sb3.2 b hb).trans e) f0 f1 f3 f4 f5,q⟩
theorem kq{gs:List Comprehension}{pos py:Pos}{y:Str}{l:Nat}(hk:env.scope.kind= .function)(hy:env.scope.names.lookup y=some .local)(hl:(py.line==pos.line)=true)
  (ha:(scope.names.any λ(n,k)=>n==y && (k== .local || k== .cell))=false):swapsWith (.ListComp elt gs scope pos) (some (.Name y py)) l env=pure true:=by
 have ky:env.kindOf y=some .local:=hy;have hb:env.blockKind= .function:=by unfold Env.blockKind;rw[hk];rfl
 unfold swapsWith;simp only[hb,ky,ha,Expr.pos,hl];rfl
end
theorem fo{lo:Int}{g:TG}{tt:TT}{vs:List Nat}{D:Addr}{Qd:Hp->Prop}(Pv:Nat->Hp->Prop)(h0:Pv 0 (upd H1 D (.lst [])))
  (hs:∀i H,i<n->Pv i H->g (.int (lo+i)) (B0 σ vs) H λσ2 H2=>B0 σ2 vs=B0 σ vs/\tt σ2 H2 λb H3=>if b=true then te σ2 H3 λy H4=>∃acc,H4 D=some (.lst acc)/\acc.length<sizeLine/\Pv (i+1) (upd H4 D (.lst (acc++ [y]))) else Pv (i+1) H3) (hd:∀H,Pv n H->Qd H):
  ∃W:Nat->Nat->Hp->Prop,(∃m,W 0 m (upd H1 D (.lst [])))/\∀i m H,W i m H->
   ((nv lo n).stop i H/\Qd H)\/((nv lo n).go i H/\∃Nx:Hp->Prop,(∀H',Nx H'->∃m',m'<m/\W (i+1) m' H')/\∀x H',(nv lo n).iU i H x H'->g x (B0 σ vs) H' λσ2 H2=>B0 σ2 vs=B0 σ vs/\tt σ2 H2 λb H3=>if b=true then te σ2 H3 λy H4=>∃acc,H4 D=some (.lst acc)/\acc.length<sizeLine/\Nx (upd H4 D (.lst (acc++ [y]))) else Nx H3):=by
 refine⟨λi m H=>m=n - i/\i<=n/\Pv i H,⟨n,by simp,zero_le _,h0⟩,?_⟩;rintro i m H ⟨rfl,hi,p⟩;by_cases hlt:i<n
 ·refine .inr ⟨hlt,Pv (i+1),λH' p'=>⟨n - (i+1),by lia,rfl,hlt,p'⟩,λx H' y=> ?_⟩;obtain⟨e,y⟩:=y;subst e y;exact hs i _ hlt p
 ·have e:i=n:=by lia
  subst e;exact .inl ⟨Nat.le_refl _,hd H p⟩
theorem de{g:TG}{tt:TT}{vs:List Nat}{D:Addr}{Qd:Hp->Prop}(Pv:Nat->Hp->Prop)(h0:Pv 0 (upd H1 D (.lst [])))(hl:∀i H,i<=xs.length->Pv i H->A4 K H a xs)
  (hs:∀i x H,xs[i]?=some x->Pv i H->g x (B0 σ vs) H λσ2 H2=>B0 σ2 vs=B0 σ vs/\tt σ2 H2 λb H3=>if b=true then te σ2 H3 λy H4=>∃acc,H4 D=some (.lst acc)/\acc.length<sizeLine/\Pv (i+1) (upd H4 D (.lst (acc++ [y]))) else Pv (i+1) H3) (hd:∀H,Pv xs.length H->Qd H):
  ∃W:Nat->Nat->Hp->Prop,(∃m,W 0 m (upd H1 D (.lst [])))/\∀i m H,W i m H->
   ((kD K a).stop i H/\Qd H)\/((kD K a).go i H/\∃Nx:Hp->Prop,(∀H',Nx H'->∃m',m'<m/\W (i+1) m' H')/\∀x H',(kD K a).iU i H x H'->g x (B0 σ vs) H' λσ2 H2=>B0 σ2 vs=B0 σ vs/\tt σ2 H2 λb H3=>if b=true then te σ2 H3 λy H4=>∃acc,H4 D=some (.lst acc)/\acc.length<sizeLine/\Nx (upd H4 D (.lst (acc++ [y]))) else Nx H3):=by
 refine⟨λi m H=>m=xs.length - i/\i<=xs.length/\Pv i H,⟨xs.length,by simp,zero_le _,h0⟩,?_⟩;rintro i m H ⟨rfl,hi,p⟩;have q:=hl i H hi p;by_cases hlt:i<xs.length
 ·refine .inr ⟨⟨xs,xs[i],q,by simp[hlt]⟩,Pv (i+1),λH' p'=>⟨xs.length - (i+1),by lia,rfl,hlt,p'⟩,λx H' y=> ?_⟩;obtain⟨e,y⟩:=y;subst e;exact hs i x _ (y xs q) p
 ·have e:i=xs.length:=by lia
  subst e;exact .inl ⟨⟨xs,q,Nat.le_refl _⟩,hd H p⟩
def xa(N:List Str)(sc scope:Scope)(own:List (Str×Nat)):Bool:=
 (match scope.kind with | .function=>true | _=>false) && (scope.names.all λy=>decide (scope.names.lookup y.1=some y.2)) && (own.all λp=>decide (N[p.2]?=some p.1)) &&
  (scope.names.all λy=>match y.2 with
   | .free=>(match sc.names.lookup y.1 with | some .cell=>true | some .free=>true | _=>false)
   | .local=>decide (y.1∈own.map (·.1)) || decide (y.1∉N)
   | .cell=>decide (y.1∈own.map (·.1)) || decide (y.1∉N)
   |_=>true)
theorem B4{own:List (Str×Nat)}(h:xa N sc scope own=true):fV N sc scope own:=by
 unfold xa at h;simp only[Bool.and_eq_true,all_eq_true,decide_eq_true_eq] at h;obtain⟨⟨⟨h1,h2⟩,h3⟩,h4⟩:=h;refine⟨?_,h2,h3,λy hy e=> ?_,λy hy e=> ?_⟩
 ·split at h1
  ·assumption
  ·cases h1
 ·have q:=h4 y hy;simp only[e] at q;split at q<;>first | exact .inl (by assumption) | exact .inr (by assumption) | cases q
 ·have q:=h4 y hy;rcases e with e | e<;>(simp only[e,Bool.or_eq_true,decide_eq_true_eq] at q;exact q)
end L2
namespace L2
open PySem PySem.Spec PyProof.Rows
section
variable{κ:Type} [DecidableEq κ]
def EL(kvs:List (κ×V))(k:κ):Option V:=(kvs.find? λkv=>decide (kv.1=k)).map (·.2)
def putK(kvs:List (κ×V))(k:κ)(v:V):List (κ×V):=
 if (kvs.any λkv=>decide (kv.1=k))=true then kvs.map (λkv=>if kv.1=k then(kv.1,v) else kv) else kvs++ [(k,v)]
theorem Ds{p:κ×V}{r:List (κ×V)}{k:κ}(e:p.1=k):EL (p::r) k=some p.2:=by simp[EL,find?_cons,e]
theorem Dt{p:κ×V}{r:List (κ×V)}{k:κ}(e:¬p.1=k):EL (p::r) k=EL r k:=by simp[EL,find?_cons,e]
theorem Ks(k:κ):∀kvs:List (κ×V),(kvs.any λkv=>decide (kv.1=k))=(EL kvs k).isSome
 | []=>rfl
 |p::r=>by
  rw[any_cons];by_cases e:p.1=k
  ·simp only[Ds e,decide_eq_true e,Bool.true_or,isSome_some]
  ·rw[Dt e,decide_eq_false e,Bool.false_or];exact Ks k r
theorem fq(k j:κ)(y:V):∀kvs:List (κ×V),EL (kvs.map λkv=>if kv.1=k then(kv.1,y) else kv) j=(EL kvs j).map λx=>if j=k then y else x
 | []=>rfl
 |p::r=>by
  have ih:=fq k j y r;rw[map_cons];by_cases h:p.1=k
  ·rw[if_pos h];by_cases e:p.1=j
   ·rw[Ds (p:=(p.1,y)) e,Ds e,map_some,if_pos (e.symm.trans h)]
   ·rw[Dt (p:=(p.1,y)) e,Dt e,ih]
  ·rw[if_neg h];by_cases e:p.1=j
   ·rw[Ds (p:=p) e,Ds e,map_some,if_neg (λz=>h (e.trans z))]
   ·rw[Dt (p:=p) e,Dt e,ih]
theorem bw(k j:κ)(y:V):∀kvs:List (κ×V),EL kvs k=none->EL (kvs++ [(k,y)]) j=if j=k then some y else EL kvs j
 | [],_=>by
  by_cases e:k=j
  ·rw[if_pos e.symm];exact Ds (p:=(k,y)) e
  ·rw[if_neg (λz=>e z.symm)];exact Dt (p:=(k,y)) e
 |p::r,hn=>by
  rw[List.cons_append];have hk:¬p.1=k:=λz=>by rw[Ds z] at hn;cases hn
  rw[Dt hk] at hn;have ih:=bw k j y r hn;by_cases e:p.1=j
  ·rw[Ds e,Ds e,if_neg (λz=>hk (e.trans z))]
  ·rw[Dt e,Dt e,ih]
theorem qC(kvs:List (κ×V))(k j:κ)(y:V):EL (putK kvs k y) j=if j=k then some y else EL kvs j:=by
 unfold putK;by_cases a:(kvs.any λkv=>decide (kv.1=k))=true
 ·rw[if_pos a,fq];rw[Ks] at a;by_cases e:j=k
  ·obtain⟨x,hx⟩:=isSome_iff_exists.mp a;rw[if_pos e,e,hx,map_some,if_pos rfl]
  ·rw[if_neg e];cases EL kvs j with
   |none=>rfl
   |some x=>rw[map_some,if_neg e]
 ·rw[if_neg a];refine bw k j y kvs ?_;rw[Ks] at a;cases q:EL kvs k with
  |none=>rfl
  |some x=>rw[q] at a;exact(a rfl).elim
theorem Qe(kvs:List (κ×V))(k:κ)(v:V):(putK kvs k v).length<=kvs.length+1:=by
 unfold putK;split
 ·rw[length_map];lia
 ·rw[length_append,length_cons,length_nil];lia
theorem Yw{kvs:List (κ×V)}{k:κ}(v:V)(h:EL kvs k=none):putK kvs k v=kvs++ [(k,v)]:=by unfold putK;rw[Ks,h];exact if_neg (by decide)
theorem KI.Np{o:Option V}{u:Option Value}(r:KI o u):o.isSome=u.isSome:=by
 cases o with
 |none=>cases u with
  |none=>rfl
  |some _=>exact(show False from r).elim
 |some _=>cases u with
  |none=>exact(show False from r).elim
  |some _=>rfl
theorem KI.getD{o:Option V}{u:Option Value}{d:V}{d':Value}(r:KI o u)(rd:BI d d'):BI (o.getD d) (u.getD d'):=by
 cases o with
 |none=>cases u with
  |none=>exact rd
  |some _=>exact(show False from r).elim
 |some _=>cases u with
  |none=>exact(show False from r).elim
  |some _=>exact r
theorem KV.val{kvs:List (κ×V)}{vs:List (κ×Value)}(r:KV kvs vs)(k:κ):KI (EL kvs k) (valueAt vs k):=by
 unfold KV at r;induction r with
 |nil=>exact True.intro
 | @cons p q ps qs h t ih=>
  obtain⟨h1,h2⟩:=h;by_cases e:p.1=k
  ·have e':q.1=k:=h1.symm.trans e;have b:valueAt (q::qs) k=some q.2:=by simp[valueAt,find?_cons,e']
   rw[Ds e,b];exact h2
  ·have e':¬q.1=k:=λz=>e (h1.trans z);have b:valueAt (q::qs) k=valueAt qs k:=by simp[valueAt,find?_cons,e']
   rw[Dt e,b];exact ih
theorem KV.any{kvs:List (κ×V)}{vs:List (κ×Value)}(r:KV kvs vs)(k:κ):(kvs.any λkv=>decide (kv.1=k))=vs.any λkv=>decide (kv.1=k):=by
 unfold KV at r;induction r with
 |nil=>rfl
 |cons h t ih=>rw[any_cons,any_cons,ih,h.1]
theorem KV.uo{kvs:List (κ×V)}{vs:List (κ×Value)}(r:KV kvs vs)(k:κ)(ry:BI y u):
  KV (kvs.map λkv=>if kv.1=k then(kv.1,y) else kv) (vs.map λkv=>if kv.1=k then(kv.1,u) else kv):=by
 unfold KV at r ⊢;induction r with
 |nil=>exact .nil
 | @cons p q ps qs h t ih=>
  rw[map_cons,map_cons];refine .cons ?_ ih;obtain⟨h1,h2⟩:=h;by_cases e:p.1=k
  ·rw[if_pos e,if_pos (h1.symm.trans e)];exact⟨h1,ry⟩
  ·rw[if_neg e,if_neg (λz=>e (h1.trans z))];exact⟨h1,h2⟩
theorem KV.put{kvs:List (κ×V)}{vs:List (κ×Value)}(r:KV kvs vs)(k:κ)(ry:BI y u):KV (putK kvs k y) (stored vs k u):=by
 unfold putK stored;rw[r.any k];by_cases e:(vs.any λkv=>decide (kv.1=k))=true
 ·rw[if_pos e,if_pos e];exact r.uo k ry
 ·rw[if_neg e,if_neg e];exact Paired.snoc r ⟨rfl,ry⟩
theorem KV.length{kvs:List (κ×V)}{vs:List (κ×Value)}(r:KV kvs vs):kvs.length=vs.length:=Paired.length r
end
theorem YX{k:Key}(r:BI (kV k) u):(Bh P w).is k u=true:=by
 cases k with
 |inl i=>obtain⟨t,e⟩:=(show ∃t,u=Value.int i t from r);subst e;exact gp P w i t
 |inr x=>obtain⟨t,e⟩:=(show ∃t,u=Value.str x t from r);subst e;exact gq P w x t
theorem bz{P:Program}{w:World}:∀{ks:List Key} {us:List Value},Vals (ks.map kV) us->ItemsAre (Bh P w) ks us
 | [],_,r=>by rw[map_nil] at r;cases r;exact .nil
 |k::ks,_,r=>by
  rw[map_cons] at r;cases r with
  |cons h t=>exact .cons (YX h) (bz t)
abbrev KT(H:Hp):List (List Key×V)->List (List Key×Addr×Value)->Prop:=Paired λp q=>p.1=q.1/\H q.2.1=some (.tup (p.1.map kV))/\BI p.2 q.2.2
theorem KT.val{kvs:List (List Key×V)}{xs:List (List Key×Addr×Value)}(r:KT H kvs xs)(k:List Key):KI (EL kvs k) ((atKey xs k).map (·.2)):=by
 induction r with
 |nil=>exact True.intro
 | @cons p q ps qs h t ih=>
  obtain⟨h1,_,h2⟩:=h;by_cases e:p.1=k
  ·have e':q.1=k:=h1.symm.trans e;have b:atKey (q::qs) k=some q.2:=by simp[atKey,find?_cons,e']
   rw[Ds e,b];exact h2
  ·have e':¬q.1=k:=λz=>e (h1.trans z);have b:atKey (q::qs) k=atKey qs k:=by simp[atKey,find?_cons,e']
   rw[Dt e,b];exact ih
theorem KT.uo{kvs:List (List Key×V)}{xs:List (List Key×Addr×Value)}(r:KT H kvs xs)(k:List Key)(ry:BI y u):
  KT H (kvs.map λkv=>if kv.1=k then(kv.1,y) else kv) (xs.map (putAt k u)):=by
 induction r with
 |nil=>exact .nil
 | @cons p q ps qs h t ih=>
  rw[map_cons,map_cons];refine .cons ?_ ih;obtain⟨h1,h2,h3⟩:=h;unfold putAt;by_cases e:p.1=k
  ·rw[if_pos e,if_pos (h1.symm.trans e)];exact⟨h1,h2,ry⟩
  ·rw[if_neg e,if_neg (λz=>e (h1.trans z))];exact⟨h1,h2,h3⟩
theorem KT.put{kvs:List (List Key×V)}{xs:List (List Key×Addr×Value)}(r:KT H kvs xs)(k:List Key)(hb:H b=some (.tup (k.map kV)))(ry:BI y u):
  KT H (putK kvs k y) (storedH xs k b u):=by
 have e:(kvs.any λkv=>decide (kv.1=k))=(atKey xs k).isSome:=by rw[Ks,(r.val k).Np,isSome_map]
 unfold putK storedH;rw[e];by_cases q:(atKey xs k).isSome=true
 ·rw[if_pos q,if_pos q];exact r.uo k ry
 ·rw[if_neg q,if_neg q];exact Paired.snoc r ⟨rfl,hb,ry⟩
theorem KT.keeps{kvs:List (List Key×V)}{xs:List (List Key×Addr×Value)}(r:KT H kvs xs)(ht:∀b ys,H b=some (.tup ys)->H' b=some (.tup ys)):KT H' kvs xs:=
 Paired.uc r λ_ _ z=>⟨z.1,ht _ _ z.2.1,z.2.2⟩
section
theorem uC{u:HO}(ok:Ma P w H h)(e:Rd H a u):CT P w H h a u:=e.ok ok
theorem Wx{kvs:List (Key×V)}(ok:Ma P w H h)(e:Rd H a (.dK kvs)):kvs.length<=sizeLine/\(a==sysModules)=false/\∃vs,KV kvs vs/\h.DictOf (Bh P w) a vs:=
 show CT P w H h a (.dK kvs) from uC ok e
theorem oO{kvs:List (Key×V)}(ok:Ma P w H h)(e:H a=some (.dK kvs)):kvs.length<=sizeLine/\(a==sysModules)=false/\∃vs,KV kvs vs/\h.DictOf (Bh P w) a vs:=Wx ok (.inl e)
theorem V6{ks:List Key}(ok:Ma P w H h)(e:H a=some (.tup (ks.map kV))):(tupleKind (Bh P w)).is h ks a:=by obtain⟨_,A7,r,o,h1,h2,n,h3⟩:=(show CT P w H h a (.tup (ks.map kV)) from ok a _ e);exact⟨o,A7.toArray,n,h1,h2,h3,by simpa using bz r⟩
theorem YY{kvs:List (List Key×V)}(ok:Ma P w H h)(e:Rd H a (.dT kvs)):kvs.length<=sizeLine/\(a==sysModules)=false/\
  ∃xs,KT H kvs xs/\h.DictOfH (tupleKind (Bh P w)) a xs:=by
 obtain⟨z,y,xs,r,o,es,ep,h1,h2,h3,h4,h5⟩:=(show CT P w H h a (.dT kvs) from uC ok e);refine⟨z,y,xs,r,o,es,ep,h1,h2,h3,h4,λx hx=> ?_,h5⟩;have all:∀{l:List (List Key×V)} {m:List (List Key×Addr×Value)},KT H l m->∀x∈m,(tupleKind (Bh P w)).is h x.1 x.2.1:=by
  intro l m q;induction q with
  |nil=>intro x hx;exact nomatch hx
  | @cons p q ps qs hq t ih=>
   intro x hx;rcases mem_cons.mp hx with e | hx
   ·subst e;exact V6 ok (by rw[<-hq.1];exact hq.2.1)
   ·exact ih x hx
 exact all r x hx
theorem xu{kvs:List (List Key×V)}(ok:Ma P w H h)(e:H a=some (.dT kvs)):kvs.length<=sizeLine/\(a==sysModules)=false/\
  ∃xs,KT H kvs xs/\h.DictOfH (tupleKind (Bh P w)) a xs:=YY ok (.inl e)
end
def SV(H:Hp)(a:Addr)(y:V)(r:Option V):Prop:=
 (∃kvs k,Rd H a (.dK kvs)/\y=kV k/\r=EL kvs k)\/∃kvs k b,Rd H a (.dT kvs)/\y= .ref b/\H b=some (.tup (k.map kV))/\r=EL kvs k
def fN(H:Hp)(a:Addr)(y v:V)(H':Hp):Prop:=
 (∃kvs k,H a=some (.dK kvs)/\y=kV k/\kvs.length<sizeLine/\H'=upd H a (.dK (putK kvs k v)))\/
 ∃kvs k b,H a=some (.dT kvs)/\y= .ref b/\H b=some (.tup (k.map kV))/\kvs.length<sizeLine/\H'=upd H a (.dT (putK kvs k v))
theorem SV.k{H:Hp}{a:Addr}{kvs:List (Key×V)}{k:Key}(e:H a=some (.dK kvs)):SV H a (kV k) (EL kvs k):= .inl ⟨kvs,k,.inl e,rfl,rfl⟩
theorem fN.k{H:Hp}{a:Addr}{kvs:List (Key×V)}{k:Key}{v:V}(e:H a=some (.dK kvs))(hl:kvs.length<sizeLine):fN H a (kV k) v (upd H a (.dK (putK kvs k v))):= .inl ⟨kvs,k,e,rfl,hl,rfl⟩
section
variable{v:V}{r:Value}{o:Option V}
theorem Inv.big(I:Inv X AF σ H s):sysModules<s.heap.objs.size:=by have h:mainGlobals<s.heap.objs.size:=(I.mod.glob.keeps I.bk).lt;exact Nat.lt_trans (by decide) h
theorem me(hu:A.units+1<cLine)(I:Inv X AF σ H s)(g:SV H a y (some v))(ry:BI y u)(h:∀w' s',Inv X AF σ H s'->BI v w'->Q w' s'):
  wpAny (model X.prog X.w) A (getItem (.ref a) u) Q E s:=by
 rcases g with⟨kvs,k,e,ey,l⟩ | ⟨kvs,k,b,e,ey,eb,l⟩
 ·subst ey;obtain⟨z,hd,vs,rel,dd⟩:=Wx I.BL e;obtain⟨w',hw,rw'⟩:=KI.some_of (v:=v) (o:=valueAt vs k) (by rw[l];exact rel.val k);exact wpAny_getItem_of (YX ry) dd.mapOf hw (h w' _ (I.tok _) rw')
 ·subst ey;cases (show u=Value.ref b from ry);obtain⟨z,hd,xs,rel,dd⟩:=YY I.BL e;obtain⟨w',hw,rw'⟩:=KI.some_of (v:=v) (o:=(atKey xs k).map (·.2)) (by rw[l];exact rel.val k);obtain⟨p,hp,hp2⟩:=map_eq_some_iff.mp hw;refine wpAny_getItem_heap (tupleKind_room_in1 hu) (V6 I.BL eb) dd hp ?_;rw[hp2];exact h w' _ (I.tok _) rw'
theorem yu(hu:A.units+1<cLine)(I:Inv X AF σ H s)(g:SV H a y o)(ry:BI y u)(h:∀s',Inv X AF σ H s'->Q (.bool o.isSome) s'):
  wpAny (model X.prog X.w) A (compareOp .In u (.ref a)) Q E s:=by
 rcases g with⟨kvs,k,e,ey,l⟩ | ⟨kvs,k,b,e,ey,eb,l⟩
 ·subst ey;obtain⟨z,hd,vs,rel,dd⟩:=Wx I.BL e;refine wpAny_in_of (YX ry) hd dd.mapOf ?_;rw[<-(rel.val k).Np,<-l];exact h _ (I.tok _)
 ·subst ey;cases (show u=Value.ref b from ry);obtain⟨z,hd,xs,rel,dd⟩:=YY I.BL e;refine wpAny_in_heap (tupleKind_room_in1 hu) (V6 I.BL eb) hd dd ?_;have q:=(rel.val k).Np;rw[isSome_map] at q;rw[<-q,<-l];exact h _ (I.tok _)
theorem rn(hu:A.units+1<cLine)(I:Inv X AF σ H s)(g:SV H a y o)(ry:BI y u)(h:∀s',Inv X AF σ H s'->Q (.bool (!o.isSome)) s'):
  wpAny (model X.prog X.w) A (compareOp .NotIn u (.ref a)) Q E s:=by
 rcases g with⟨kvs,k,e,ey,l⟩ | ⟨kvs,k,b,e,ey,eb,l⟩
 ·subst ey;obtain⟨z,hd,vs,rel,dd⟩:=Wx I.BL e;refine wpAny_notIn_of (YX ry) hd dd.mapOf ?_;rw[<-(rel.val k).Np,<-l];exact h _ (I.tok _)
 ·subst ey;cases (show u=Value.ref b from ry);obtain⟨z,hd,xs,rel,dd⟩:=YY I.BL e;refine wpAny_notIn_heap (tupleKind_room_in1 hu) (V6 I.BL eb) hd dd ?_;have q:=(rel.val k).Np;rw[isSome_map] at q;rw[<-q,<-l];exact h _ (I.tok _)
theorem kr{ob:HO}(I:Inv X AF σ H s)(mu:wY (H a))(hs:Heap.SameBut a s.heap h')(he:∃q,h'.get? a=some q)(new:CT X.prog X.w (upd H a ob) h' a ob):
  Inv X AF σ (upd H a ob) {s with heap:=h',toks:=t'}:=
 I.write (x:=a) (e:=a) mu (.inl rfl) (λb q hb z=>(hs.2 b hb).trans z) he new
theorem vQ{kvs:List (Key×V)}{vs:List (Key×Value)}(z:kvs.length<=sizeLine)(hd:(a==sysModules)=false)(rel:KV kvs vs)(dd:h'.DictOf (Bh P w) a vs):
  CT P w H' h' a (.dK kvs):=⟨z,hd,vs,rel,dd⟩
theorem mf{Q:Unit->Shared->Prop}(hu:A.units+1<cLine)(I:Inv X AF σ H s)(g:fN H a y v H')(ry:BI y u)(rv:BI v r)(h:∀s',Inv X AF σ H' s'->Q () s'):
  wpAny (model X.prog X.w) A (setItem (.ref a) u r) Q E s:=by
 rcases g with⟨kvs,k,e,ey,l,eH⟩ | ⟨kvs,k,b,e,ey,eb,l,eH⟩
 ·subst ey eH;obtain⟨z,hd,vs,rel,dd⟩:=oO I.BL e;have hz:vs.length<=sizeLine:=by rw[<-rel.length];exact z
  have hl:(putK kvs k v).length<=sizeLine:=by have:=Qe kvs k v;lia
  refine wpAny_setItem_pairs (hsz:=hz) (YX ry) dd λh' dd' hs=>h _ ?_;have he:∃q,h'.get? a=some q:=let ⟨q,_,_,hq,_⟩:=dd';⟨q,hq⟩;exact kr I (by rw[e];exact True.intro) hs he (vQ hl hd (rel.put k rv) dd')
 ·subst ey eH;cases (show u=Value.ref b from ry);obtain⟨z,hd,xs,rel,dd⟩:=xu I.BL e;have hz:xs.length<=sizeLine:=by rw[<-Paired.length rel];exact z
  have hl:(putK kvs k v).length<=sizeLine:=by have:=Qe kvs k v;lia
  refine wpAny_setItem_heap (hsz:=hz) (tupleKind_room_in1 hu) (V6 I.BL eb) dd λh' dd' hs=>h _ ?_;obtain⟨q,es,ep,hq,h2,h3,h4,_,h5⟩:=dd';refine kr I (by rw[e];exact True.intro) hs ⟨q,hq⟩ ⟨hl,hd,_,(rel.put k eb rv).keeps λc ys ec=> ?_,q,es,ep,hq,h2,h3,h4,h5⟩;rw[AM (kF ec e (λz=>nomatch z))];exact ec
end
section
variable{kvs:List (Key×V)}{k:Key}
theorem xw(I:Inv X AF σ H s)(e:Rd H a (.dK kvs))(h:∀t s',Inv X AF σ H s'->Q (.int kvs.length t) s'):wpAny (model X.prog X.w) A (call (.builtin "len") [.ref a]) Q E s:=by obtain⟨z,hd,vs,rel,dd⟩:=Wx I.BL e;refine call_len_dict hd dd (by rw[<-rel.length];rw[sizeLine_eq] at z;lia) ?_;rw[<-rel.length];exact h _ _ (I.tok _)
end
def xb(i:Expr):Prop:=∀ov iv,subscripted i false ov iv=operate [ov,iv] (getItem ov iv)
theorem rq{slice:Expr}{pos:Pos}{T id:String}
  (hl:typeLookup (.type T) "__getitem__"=pure (some (.builtin id))) (hs:xb slice)
  (h:wpAny (model prog w) A (eval value env) (λo s₁=>wpAny (model prog w) A (eval slice env) (λi s₂=>s₂.TypeIs o T/\wpAny (model prog w) A (getItem o i) Q E s₂) E s₁) E s):
  wpAny (model prog w) A (eval (.Subscript value slice pos) env) Q E s:=by
 refine Subscript_ (wpAny_mono h (λo s₁ h₁=>wpAny_mono h₁ (λi s₂ h₂=> ?_) λ_ _ x=>x) λ_ _ x=>x);obtain⟨hT,h₂⟩:=h₂;unfold subscriptTail;refine wpAny_bind ?_;rw[getitemInPython_of_ne hT.not_modules];refine wpAny_bind (wpAny_specialOf hT hl ?_);have fin:wpAny (model prog w) A (subscripted slice false o i) (λr s₃=>wpAny (model prog w) A (letTemporaryGo value o r>>=λ_=>pure r) Q E s₃) E s₂:=by rw[hs o i];exact wpAny_operating (wpAny_mono h₂ (λr s₃ h₃=>wpAny_bind (wpAny_letTemporaryGo (wpAny_pure h₃))) λ_ _ x=>x)
 first
  |exact wpAny_pure (wpAny_bind fin)
  |exact wpAny_bind (wpAny_pure (wpAny_bind fin))
  |exact wpAny_bind fin
theorem gz{o:Option V}(I:Inv X AF σ H s)(g:SV H a y o):s.TypeIs (.ref a) "dict":=by
 rcases g with⟨kvs,k,e,_,_⟩ | ⟨kvs,k,b,e,_,_,_⟩
 ·obtain⟨_,_,vs,_,dd⟩:=Wx I.BL e;exact dd.typeIs
 ·obtain⟨_,_,xs,_,dd⟩:=YY I.BL e;exact dd.typeIs
def uD(td ty:TE):TE:=λσ H Q=>td σ H λx H1=>ty σ H1 λy H2=>∃a v,x= .ref a/\SV H2 a y (some v)/\Q v H2
def xc(ty td:TE):TE:=λσ H Q=>ty σ H λy H1=>td σ H1 λx H2=>∃a o,x= .ref a/\SV H2 a y o/\Q (.bl o.isSome) H2
def ku(ty td:TE):TE:=λσ H Q=>ty σ H λy H1=>td σ H1 λx H2=>∃a o,x= .ref a/\SV H2 a y o/\Q (.bl (!o.isSome)) H2
def uE(td ty tv:TE):TS:=λD σ H=>tv σ H λv H1=>td σ H1 λx H2=>ty σ H2 λy H3=>∃a H4,x= .ref a/\fN H3 a y v H4/\D.nx σ H4
section
variable{o i:Expr}{pos:Pos}{ty:TE}
theorem r8(hu:X.A.units+1<cLine)(ho:PE X o td)(hi:PE X i ty)(hs:xb i):PE X (.Subscript o i pos) (uD td ty):=by intro AF s σ H Q I h;refine rq PySem.F.slot_dict_getitem.lookup hs (CK (ho AF s σ H _ I h) ?_);rintro u s1 ⟨x,H1,I1,rx,q1⟩;refine CK (hi AF s1 σ H1 _ I1 q1) ?_;rintro iv s2 ⟨y,H2,I2,ry,a,v,ex,g,q2⟩;subst ex;obtain rfl:u=Value.ref a:=rx;exact⟨gz I2 g,me hu I2 g ry λw' s3 I3 rw'=>⟨v,H2,I3,rw',q2⟩⟩
theorem vR(hu:X.A.units+1<cLine)(hi:PE X i ty)(ho:PE X o td):PC X .In i o (xc ty td):=by intro AF s σ H Q I h;refine CK (hi AF s σ H _ I h) ?_;rintro iv s1 ⟨y,H1,I1,ry,q1⟩;refine CK (ho AF s1 σ H1 _ I1 q1) ?_;rintro u s2 ⟨x,H2,I2,rx,a,ov,ex,g,q2⟩;subst ex;obtain rfl:u=Value.ref a:=rx;exact yu hu I2 g ry λs3 I3=>⟨.bl ov.isSome,H2,I3,rfl,q2⟩
theorem mh(hu:X.A.units+1<cLine)(hi:PE X i ty)(ho:PE X o td):PC X .NotIn i o (ku ty td):=by intro AF s σ H Q I h;refine CK (hi AF s σ H _ I h) ?_;rintro iv s1 ⟨y,H1,I1,ry,q1⟩;refine CK (ho AF s1 σ H1 _ I1 q1) ?_;rintro u s2 ⟨x,H2,I2,rx,a,ov,ex,g,q2⟩;subst ex;obtain rfl:u=Value.ref a:=rx;exact rn hu I2 g ry λs3 I3=>⟨.bl (!ov.isSome),H2,I3,rfl,q2⟩
theorem df(hu:X.A.units+1<cLine)(ho:PE X o td)(hi:PE X i ty)(hv:PE X value tv)(hs:swapsWith value (some (.Subscript o i pos')) pos.line X.env=pure false):
  PS X (.Assign [.Subscript o i pos'] value pos) (uE td ty tv):=by
 intro AF s σ H D I h;refine wpAny_Assign_Subscript (CK (hv AF s σ H _ I h) ?_) hs;rintro r s1 ⟨v,H1,I1,rv,q1⟩;refine CK (ho AF s1 σ H1 _ I1 q1) ?_;rintro u s2 ⟨x,H2,I2,rx,q2⟩;refine CK (hi AF s2 σ H2 _ I2 q2) ?_;rintro iv s3 ⟨y,H3,I3,ry,a,H4,ex,g,q3⟩;subst ex;obtain rfl:u=Value.ref a:=rx;exact mf hu I3 g ry rv λs4 I4=>⟨σ,H4,I4,q3⟩
end
theorem qD(h:Heap)(hb:sysModules<h.objs.size):CT P w H (h.push {cls:= .type "dict",data:= .dict #[]}) h.objs.size (.dK []):=
 ⟨zero_le _,beq_eq_false_iff_ne.mpr (Ne.symm (ne_of_lt hb)),[],.nil,Heap.DictOf.new h⟩
def vS:TE:=λ_ H Q=>∀p,H p=none->Q (.ref p) (upd H p (.dK []))
section
variable{pos:Pos}
theorem Yx:PE X (.Dict [] [] pos) vS:=λAF s σ H Q I h=>wpAny_Dict_empty ⟨.ref s.heap.objs.size,_,I.laid (a:=s.heap.objs.size) (o:= .dK []) (t':=s.toks) (λ_ _ q=>get?_push_of_some _ q) (Nat.le_refl _) (qD s.heap I.big),rfl,h _ (I.BL.fresh (Nat.le_refl _))⟩
end
def Kl(kvs more:List (Key×V)):List (Key×V):=more.foldl (λacc kv=>putK acc kv.1 kv.2) kvs
theorem KV.merge:∀{more:List (Key×V)} {rs:List (Key×Value)} {kvs:List (Key×V)} {vs:List (Key×Value)},KV more rs->KV kvs vs->KV (Kl kvs more) (merged vs rs):=by
 intro more rs kvs vs r;unfold KV at r;induction r generalizing kvs vs with
 |nil=>intro q;exact q
 | @cons p q ps qs h t ih=>
  intro r0;have e:KV (putK kvs p.1 p.2) (stored vs q.1 q.2):=by have:=r0.put p.1 h.2;rw[<-h.1];exact this
  exact ih e
theorem Sk:∀(more kvs:List (Key×V)),(Kl kvs more).length<=kvs.length+more.length
 | [],kvs=>by show kvs.length<=kvs.length+0;lia
 |p::r,kvs=>by have h1:=Sk r (putK kvs p.1 p.2);have h2:=Qe kvs p.1 p.2;show (Kl (putK kvs p.1 p.2) r).length<=_;rw[length_cons];lia
structure M2(X:Cx)(o:Expr)(m:Str)(apos:Pos)(e f:Expr)(cpos:Pos):Prop where
 AJ:attributeBase o m X.env (eval o X.env)=eval o X.env
 Hf:((backTo cpos (starEach [e,f] X.env)).all (λx=> !x.1) && (backToKw cpos (keywordEach [] X.env)).all (λx=>x.1.isSome)
  && decide (([e,f]:List Expr).length+([]:List Keyword).length+(if ([]:List Keyword).isEmpty then 0 else 1)<30))=true
 line:(apos.endLine==cpos.line)=true
 trees:backTo cpos (starEach [e,f] X.env)=[(false,eval e X.env),(false,eval f X.env)]
def zR(H:Hp)(a:Addr):Prop:=(∃kvs,Rd H a (.dK kvs))\/∃kvs,Rd H a (.dT kvs)
theorem vT(I:Inv X AF σ H s)(d:zR H a):
  s.TypeIs (.ref a) "dict"/\(∀b,Value.ref a= .ref b->∃ob,s.heap.get? b=some ob/\ob.dict=none)/\(a==sysModules)=false:=by
 rcases d with⟨kvs,e⟩ | ⟨kvs,e⟩
 ·obtain⟨_,hd,vs,_,dd⟩:=Wx I.BL e;refine⟨dd.typeIs,λb q=> ?_,hd⟩;cases q;obtain⟨ob,_,_,h1,h2,_⟩:=dd;exact⟨ob,h1,h2.2.1⟩
 ·obtain⟨_,hd,xs,_,dd⟩:=YY I.BL e;refine⟨dd.typeIs,λb q=> ?_,hd⟩;cases q;obtain⟨ob,_,_,h1,h2,_⟩:=dd;exact⟨ob,h1,h2.2.1⟩
section
variable{d:V}{r:Value}{o:Option V}
theorem vU(hu:A.units+1<cLine)(I:Inv X AF σ H s)(g:SV H a y o)(ry:BI y u)(rd:BI d r)(h:∀w' s',Inv X AF σ H s'->BI (o.getD d) w'->Q w' s'):
  wpAny (model X.prog X.w) A (call (.builtin "dict.get") [.ref a,u,r]) Q E s:=by
 rcases g with⟨kvs,k,e,ey,l⟩ | ⟨kvs,k,b,e,ey,eb,l⟩
 ·subst ey;obtain⟨z,hd,vs,rel,dd⟩:=Wx I.BL e;refine call_meetsIn PySem.F.slot_dict_get dd.typeIs PySem.F.entry_dict_get (PySem.F.args_dict_get_3 _ _ _) (meets_dict_get_default (Bh X.prog X.w) a (YX ry) hd r) ⟨_,dd.mapOf,h _ _ (I.tok _) ?_⟩;rw[l];exact(rel.val k).getD rd
 ·subst ey;cases (show u=Value.ref b from ry);obtain⟨z,hd,xs,rel,dd⟩:=YY I.BL e;refine call_meetsIn PySem.F.slot_dict_get dd.typeIs PySem.F.entry_dict_get (PySem.F.args_dict_get_3 _ _ _) (meetsH_dict_get_default (tupleKind (Bh X.prog X.w)) a b hd r) ⟨tupleKind_room_in1 hu,k,xs,V6 I.BL eb,dd,h _ _ (I.tok _) ?_⟩;rw[l];exact(rel.val k).getD rd
end
def o7(td ty tx:TE):TE:=λσ H Q=>td σ H λx H1=>∃a,x= .ref a/\zR H1 a/\ty σ H1 λy H2=>tx σ H2 λz H3=>∃o,SV H3 a y o/\Q (o.getD z) H3
section
variable{o f:Expr}{ty tx:TE}
theorem qE(hu:X.A.units+1<cLine)(ho:PE X o td)(he:PE X e ty)(hf:PE X f tx)(m:M2 X o "get" apos e f cpos):PE X (.Call (.Attribute o "get" apos) [e,f] [] cpos) (o7 td ty tx):=by intro AF s σ H Q I h;refine wpAny_Call_method m.AJ m.Hf m.line PySem.F.plainAttrs_dict PySem.F.slot_dict_get PySem.F.type_dict_get (CK (ho AF s σ H _ I h) ?_);rintro u s1 ⟨x,H1,I1,rx,a,ex,d,q1⟩;subst ex;obtain rfl:u=Value.ref a:=rx;obtain⟨t1,t2,_⟩:=vT I1 d;refine⟨t1,t2,?_⟩;rw[m.trees];refine Calls.callWith_builtin rfl (Calls.evalArgs_plain (Calls.spliced_cons (CK (he AF s1 σ H1 _ I1 q1) ?_)));rintro iv s2 ⟨y,H2,I2,ry,q2⟩;refine Calls.spliced_cons (CK (hf AF s2 σ H2 _ I2 q2) ?_);rintro fv s3 ⟨z,H3,I3,rz,ov,g,q3⟩;refine Calls.spliced_nil ?_;exact vU hu I3 g ry rz λw' s4 I4 rw'=>⟨_,H3,I4,rw',q3⟩
end
end L2
namespace L2
open PySem PySem.Spec PyProof.Rows
theorem Zj:typeLookup (.type "list") "keys"=pure none:=am_miss_of_fast (by first | decide+kernel | rfl)
theorem ft:entryFor table "dict.update.loop"=some Builtin.«dict.update.loop»:=entryFor_of_tree (by kernel_rfl)
theorem QQ:plainId "dict.update.loop"=true:=by decide+kernel
section
theorem mi{xs:Array Value}{k:Nat}{Q:Option Value->Shared->Prop}(hx:s.heap.get? a=some o)(hc:o.cls= .type "list")(hdat:o.data= .seq xs k)(hd:o.dict=none)(hA:A.handled=none)
  (h:∀h' tk,(∀b ob,s.heap.get? b=some ob->h'.get? b=some ob)->Q none {s with heap:=h',toks:=tk}):wpAny (model prog w) A (getAttr? (.ref a) "keys") Q E s:=by
 obtain⟨c,dct,dat,sl⟩:=o;simp only at hc hdat hd;subst hc hdat hd;obtain⟨hp,g,d,tk,os⟩:=s;have hT:∀tk',(⟨hp,g,d,tk',os⟩:Shared).TypeIs (.ref a) "list":=λ_=>⟨_,hx,rfl⟩;have hmiss:=Zj;have hname:(["__module__","__name__","__qualname__","__doc__","__annotations__"]:List Str).contains "keys"=false:=by decide+kernel
 have hsz:("keys":Str).length+100<=sizeLine:=by first | size_fits | decide+kernel
 have f1:=sub_AttributeError;have f3:=PySem.F.slot_list_getattribute.lookup;have f4:=PySem.F.slot_list_getattribute.bind (.ref a);have f5:=am_list_getattr_none;unfold getAttr? getAttrBy? getAttrBy
 repeat (any_goals (first | assumption | exact hT _ | ((with_reducible show wpAny _ _ (call (Value.builtin "list.__getattribute__") _ _) _ _ _);refine call_meets PySem.F.slot_list_getattribute (hT _) am_entry_list_getattribute (PySem.F.args_list_getattribute_2 _ _) (meets_getattribute_miss_list a xs k sl "keys" _ hmiss hname hsz) ⟨hx,hA,λh' tk' e hx'=> ?_⟩) | wp_step))
 obtain⟨t',u',he⟩:=hx'.there;show wpAny _ _ (getattributeRaised _ _ _ _ _ _ _) _ _ _;unfold getattributeRaised
 repeat (any_goals (first | assumption | wp_step))
 all_goals first | exact h _ _ hx'.keeps | (dsimp only;repeat (any_goals (first | assumption | exact h _ _ hx'.keeps | wp_step)))
theorem fu{R:Result->Shared->Prop}{S I l:Addr}{items:Array Value}{res:Value}(hh:A.handled=none)(hlI:l≠I)(hSI:S≠I)(hSl:S≠l):
  ∀(rest:List (Key×Value)) (i:Nat) (acc:List (Key×Value)) (ix:Int) (t:Tok) (s:Shared),items.size=i+rest.length->acc.length+rest.length<=sizeLine->
   (∀(j:Nat) (q:Key×Value),rest[j]?=some q->∃(b:Addr) (u:Value),items[i+j]?=some (.ref b)/\b≠S/\b≠I/\IsTup s.heap b #[u,q.2]/\Sh q.1 u=true)->
   s.heap.IsListIter I l i->s.heap.IsList l items->s.heap.DictOf (Bh prog w) S acc->
   (∀h' tk,h'.DictOf (Bh prog w) S (merged acc rest)->(∀b o,b≠S->b≠I->s.heap.get? b=some o->h'.get? b=some o)->R (.ok (.ret res)) {s with heap:=h',toks:=tk})->
   codeAny (model prog w) A (.builtin "dict.update.loop" ⟨[.ref S,.ref I,.int ix t,res],[]⟩) R s
 | [],i,acc,ix,t,s,hsz,hln,ht,hit,hl,hm,hR=>by refine codeAny_builtin ft ?_;rw[Around.under_plainId QQ _];show wpAny _ A.in1 (pyNext (.ref I)>>=_) _ _ s;refine wpAny_bind (wpAny_pyNext_list_end (A:=A.in1) hh hit hl (by first | exact Array.getElem?_eq_none (le_of_eq hsz) | (simp at hsz;simp;lia)) λh' he=> ?_);show wpAny _ A.in1 (Builtin.Dict.addKeywords S []>>=_) _ _ _;refine wpAny_bind (wpAny_pure (wpAny_pure ?_));exact hR h' s.toks (hm.extBut he hSI) λb o _ hb e=>he b o hb e
 |q::rest,i,acc,ix,t,s,hsz,hln,ht,hit,hl,hm,hR=>by
  obtain⟨b,u,hb,hbS,hbI,htup,hk⟩:=ht 0 q rfl;rw[length_cons] at hsz hln;refine codeAny_builtin ft ?_;rw[Around.under_plainId QQ _];show wpAny _ A.in1 (pyNext (.ref I)>>=_) _ _ s;refine wpAny_bind (wpAny_pyNext_list_item (x:= .ref b) hit hl (by simpa using hb) λh1 hit1 hs1=> ?_);have ht1:IsTup h1 b #[u,q.2]:=htup.extBut hs1.extBut hbI;have hl1:h1.IsList l items:=hl.extBut hs1.extBut hlI;have hm1:h1.DictOf (Bh prog w) S acc:=hm.extBut hs1.extBut hSI;obtain⟨o,ho,hc,n,hd⟩:=id ht1;show wpAny _ A.in1 (holding [Value.ref b] _>>=_) _ _ _;refine wpAny_bind (wpAny_holding ?_);refine wpAny_bind (wpAny_tryCatch ?_);unfold Builtin.Dict.pairItems;refine wpAny_bind (wpAny_typeOf (T:= "tuple") ⟨o,ho,hc⟩ ?_);rw[if_pos (by first | decide | rfl | simp)];refine wpAny_bind (wpAny_seqItems ho hd (wpAny_pure ?_));show wpAny _ A.in1 (holding [u,q.2] (dictSet S u q.2)) _ _ _;refine wpAny_holding (wpAny_dictSet_pairs (knd:=Bh prog w) (k:=q.1) hk hm1 (λh2 hm2 hs2=> ?_) (by lia));refine wpAny_pure ⟨plainId_quiet QQ _,fu (items:=items) hh hlI hSI hSl rest (i+1) (stored acc q.1 q.2) (ix+1) 0 _ (show items.size=i+1+rest.length by lia) ?_ (λj q' e=> ?_) ?_ ?_ hm2 λh' tk hd' k=> ?_⟩
  ·have z:=stored_length_le acc q.1 q.2
   lia
  ·obtain⟨b',u',hb',hbS',hbI',htup',hk'⟩:=ht (j+1) q' (by simpa using e);refine⟨b',u',?_,hbS',hbI',(htup'.extBut hs1.extBut hbI').extBut hs2.extBut hbS',hk'⟩;rw[show i+1+j=i+(j+1) by lia];exact hb'
  ·exact hit1.at λo' e=>hs2.extBut I o' (Ne.symm hSI) e
  ·exact hl1.extBut hs2.extBut (Ne.symm hSl)
  ·exact hR h' tk hd' λc oc h3 h4 e=>k c oc h3 h4 (hs2.extBut c oc h3 (hs1.extBut c oc h4 e))
theorem Xp{ol:Obj}{prs:List (Key×Value)}(hh:A.handled=none)(hl:s.heap.get? l=some ol)(hc:ol.cls= .type "list")(hd:ol.dict=none)
  (hdat:ol.data= .seq items n) (hsz:items.size=prs.length) (hln:prs.length<=sizeLine)
  (ht:∀(j:Nat) (q:Key×Value),prs[j]?=some q->∃(b:Addr) (u:Value),items[j]?=some (.ref b)/\IsTup s.heap b #[u,q.2]/\Sh q.1 u=true)
  (h:∀h' tk,h'.DictOf (Bh prog w) s.heap.objs.size (merged [] prs)->(∀b o,s.heap.get? b=some o->h'.get? b=some o)->Q (.ref s.heap.objs.size) {s with heap:=h',toks:=tk}):
  wpAny (model prog w) A (call (.type "dict") [.ref l]) Q E s:=by
 refine callType_codes (Q₁:=λobj s₁=>obj= .ref s.heap.objs.size/\s₁={s with heap:=s.heap.push {cls:= .type "dict",data:= .dict #[]}}) PySem.F.kt_called_dict (PySem.F.kt_typeCall_dict_1 _) PySem.F.entry_dict_init (kt_code_dict_new _ ⟨rfl,rfl⟩) ?_;rintro obj s₁ ⟨rfl,rfl⟩;have hnew:(s.heap.push {cls:= .type "dict",data:= .dict #[]}).DictOf (Bh prog w) s.heap.objs.size []:=Heap.DictOf.new s.heap;have k0:∀b o,s.heap.get? b=some o->(s.heap.push {cls:= .type "dict",data:= .dict #[]}).get? b=some o:=λb o e=>get?_push_of_some _ e;refine⟨hnew.typeIs,PySem.F.args_dict_init_2 _ _,?_⟩;unfold Builtin.«dict.__init__»;refine wpAny_bind ?_;unfold Builtin.Dict.selfAndRest;refine wpAny_bind (wpAny_notOrdered_dict hnew.typeIs ?_);show wpAny _ _ (pure (s.heap.objs.size,[Value.ref l])) _ _ _;refine wpAny_pure ?_;show wpAny _ _ (Builtin.Dict.updateFrom "dict.__init__" s.heap.objs.size (.ref l) [] .none) _ _ _;unfold Builtin.Dict.updateFrom;refine wpAny_bind (wpAny_typeOf (T:= "list") ⟨ol,k0 _ _ hl,hc⟩ ?_);rw[if_pos (by first | decide | rfl | simp)];refine wpAny_bind (mi (k0 _ _ hl) hc hdat hd hh λh1 tk1 hk1=> ?_);rw[if_pos (show (none:Option Value).isNone=true from rfl)];refine wpAny_bind (wpAny_rule ?_);have hl1:h1.IsList l items:=⟨ol,hk1 _ _ (k0 _ _ hl),hc,n,hdat⟩;have hS1:s.heap.objs.size<h1.objs.size:=by have e:(s.heap.push {cls:= .type "dict",data:= .dict #[]}).get? s.heap.objs.size=some {cls:= .type "dict",data:= .dict #[]}:=get?_push_size _ rfl;exact lt_size (hk1 _ _ e)
 refine wpAny_bind (wpAny_pyIter_list hl1 ?_);have k2:∀b o,h1.get? b=some o->(h1.push {cls:= .type "list_iterator",data:= .fields #[.ref l,.int 0 0]}).get? b=some o:=λb o e=>get?_push_of_some _ e;have hlt:l<s.heap.objs.size:=lt_size hl;have key:=fu (prog:=prog) (w:=w) (A:=A.in1) (R:=wants (λr s₂=>r= .none/\Q (.ref s.heap.objs.size) s₂) E) (S:=s.heap.objs.size) (I:=h1.objs.size) (l:=l) (items:=items) (res:=Value.none) hh
  (ne_of_lt (Nat.lt_trans hlt hS1)) (ne_of_lt hS1) (ne_of_gt hlt) prs 0 [] 0 0
  {s with heap:=h1.push {cls:= .type "list_iterator",data:= .fields #[.ref l,.int 0 0]},toks:=tk1} (by rw[hsz,zero_add]) (by rw[length_nil,zero_add];exact hln)
  (λj q e=>by obtain⟨b,u,e1,e2,e3⟩:=ht j q e;have hb:b<s.heap.objs.size:=e2.lt;exact⟨b,u,by rw[zero_add];exact e1,ne_of_lt hb,ne_of_lt (Nat.lt_trans hb hS1),e2.keeps λc o z=>k2 _ _ (hk1 _ _ (k0 _ _ z)),e3⟩)
  ⟨_,get?_push_size _ rfl,rfl,rfl⟩ (hl1.at λo e=>k2 _ _ e) ((hnew.at λo e=>hk1 _ _ e).at λo e=>k2 _ _ e)
  (λh' tk hd' k=>⟨rfl,h h' tk hd' λb o e=>k b o (ne_of_lt (lt_size e)) (ne_of_lt (Nat.lt_trans (lt_size e) hS1)) (k2 _ _ (hk1 _ _ (k0 _ _ e)))⟩)
 first
  |exact wpAny_pure ⟨plainId_quiet QQ _,key⟩
  |exact wpAny_bind (wpAny_pure (wpAny_pure ⟨plainId_quiet QQ _,key⟩))
end
section
theorem fw{AF:List (Addr×Obj)}{σ:St}{H:Hp}{s:Shared}(I:Inv X AF σ H s):∀{ps:List Addr} {kvs:List (Key×V)},Paired (λp kv=>YO X.K H p [kV kv.1,kv.2]) ps kvs->
  ∃prs:List (Key×Value),KV kvs prs/\prs.length=ps.length/\∀(j:Nat) (q:Key×Value),prs[j]?=some q->∃(b:Addr) (u:Value),ps[j]?=some b/\IsTup s.heap b #[u,q.2]/\Sh q.1 u=true
 |_,_,.nil=>⟨[],.nil,rfl,λj q e=>by simp at e⟩
 |_,_,.cons (a:=p) (b:=kv) h t=>by
  obtain⟨prs,r,hl,hp⟩:=fw I t;obtain⟨A7,rv,ht,_⟩:=I.tuple h;obtain⟨u,y,ei,ru,ry⟩:=vals2 rv;subst ei;refine⟨(kv.1,y)::prs,.cons ⟨rfl,ry⟩ r,by rw[length_cons,length_cons,hl],λj q e=> ?_⟩;cases j with
  |zero=>have e':(kv.1,y)=q:=Option.some.inj e;subst e';exact⟨p,u,rfl,ht,YX (P:=X.prog) (w:=X.w) ru⟩
  |succ j=>obtain⟨b,u',e1,e2,e3⟩:=hp j q (by simpa using e);exact⟨b,u',by simpa using e1,e2,e3⟩
theorem kx:∀{ps:List Addr} {us:List Value},Vals (ps.map V.ref) us->us=ps.map Value.ref
 | [],us,r=>by rw[map_nil] at r;cases r;rfl
 |p::ps,us,r=>by
  rw[map_cons] at r;cases r with
  |cons h t=>
   cases h;rw[map_cons,<-kx t]
theorem jQ(hcalm:X.calm=true):Ji X (.type "dict") (λxs H Q=>∃(a:Addr) (ps:List Addr) (kvs:List (Key×V)),xs=[.ref a]/\A4 X.K H a (ps.map V.ref)/\Paired (λp kv=>YO X.K H p [kV kv.1,kv.2]) ps kvs/\
  ∀p,H p=none->Q (.ref p) (upd H p (.dK (Kl [] kvs)))):=by
 intro AF s σ H xs us Q I r q;obtain⟨a,ps,kvs,ex,hq,hp,q⟩:=q;subst ex;obtain⟨u,eu,rx⟩:=vals1 r;subst eu;cases rx;obtain⟨A7,rv,pl,hz⟩:=I.list hq;have ei:=kx rv;subst ei;rw[length_map] at hz;obtain⟨prs,rel,hl,hpr⟩:=fw I hp;obtain⟨o,n,ho,hc,hd,hdat⟩:=pl;refine Xp (prs:=prs) (I.ok.hd hcalm) ho hc hd hdat (by simp[hl]) (by rw[hl];exact hz) (λj q' e=> ?_) λh' tk hd' k=> ?_
 ·obtain⟨b,u,e1,e2,e3⟩:=hpr j q' e;exact⟨b,u,by simp[e1],e2,e3⟩
 ·have hm:(s.heap.objs.size==sysModules)=false:=beq_eq_false_iff_ne.mpr (ne_of_gt I.big);have hlen:(Kl [] kvs).length<=sizeLine:=by
   refine Nat.le_trans (Sk kvs []) ?_;rw[length_nil,zero_add,rel.length,hl];exact hz
  exact⟨.ref s.heap.objs.size,upd H s.heap.objs.size (.dK (Kl [] kvs)),I.laid (t':=tk) k (Nat.le_refl _) (show CT X.prog X.w _ _ _ (.dK (Kl [] kvs)) from⟨hlen,hm,merged [] prs,KV.merge rel .nil,hd'⟩),rfl,q _ (I.BL.fresh (Nat.le_refl _))⟩
end
end L2
namespace L2
open PySem PySem.Spec PyProof.Rows
section
theorem Inv.r9(I:Inv X AF σ H s)(k:∀b o,b∉ch->s.heap.get? b=some o->h'.get? b=some o)(hf:∀b∈ch,Xl X AF H b):Inv X AF σ H {s with heap:=h',toks:=t'}:=by
 have nit:∀b u,H b=some u->b∉ch:=λb u e z=>by have q:=(hf b z).1;rw[q] at e;cases e
 refine I.step (g':=s.gens) (d':=s.drawn) (ch:=ch) (λb hb=>⟨(hf b hb).2.2.2.1,(hf b hb).2.1,(hf b hb).2.2.2.2.1,(hf b hb).2.2.2.2.2⟩) (λb o _ _ hc e _=>k b o hc e) (λb o _ _ hc e _=>⟨o.slots,k b o hc e⟩)
  (λ_ _ _ _ n=>n) (λb o hc e=>⟨o,k b o hc e⟩) (λ_ _ e=>e) (λ_ _ _ e=>e) (λb ps e=>⟨#[],by rw[e];simp⟩) (λm hm=> ?_) (λb u e=> ?_) I.bare
 ·obtain⟨o,es,ep,ho,r⟩:=hm;exact⟨o,es,ep,k _ o (λz=>(hf _ z).2.1 rfl) ho,r⟩
 ·refine(I.BL b u e).SU (λc v hc q=>k c v ?_ q) (λ_ q=>q) λ_ _ q=>q;rcases hc with z | z
  ·rw[z];exact nit b u e
  ·exact nit c _ z
theorem Inv.b7{ob:HO}(I:Inv X AF σ H s)(k:∀b o,b∉ch->s.heap.get? b=some o->h'.get? b=some o)(hf:∀b∈ch,Xl X AF H b)(hT:s.heap.objs.size<=T)
  (new:CT X.prog X.w (upd H T ob) h' T ob):Inv X AF σ (upd H T ob) {s with heap:=h',toks:=t'}:=by
 have hn:H T=none:=I.BL.fresh hT;have nit:∀b u,H b=some u->b∉ch:=λb u e z=>by have q:=(hf b z).1;rw[q] at e;cases e
 refine I.step (g':=s.gens) (d':=s.drawn) (ch:=ch) (λb hb=>⟨(hf b hb).2.2.2.1,(hf b hb).2.1,(hf b hb).2.2.2.2.1,(hf b hb).2.2.2.2.2⟩) (λb o _ _ hc e _=>k b o hc e) (λb o _ _ hc e _=>⟨o.slots,k b o hc e⟩)
  (λb o _ e n=> ?_) (λb o hc e=>⟨o,k b o hc e⟩) (λb xs e=> ?_) (λb o u e=> ?_) (λb ps e=>⟨#[],?_⟩) (λm hm=> ?_) (λb u e=> ?_) I.bare
 ·rw[AM (ne_of_lt (lt_of_lt_of_le (lt_size e) hT))];exact n
 ·rw[AM (Ax e hn)];exact e
 ·rw[AM (Ax e hn)];exact e
 ·rw[AM (Ax e hn),e];simp
 ·obtain⟨o,es,ep,ho,r⟩:=hm;exact⟨o,es,ep,k _ o (λz=>(hf _ z).2.1 rfl) ho,r⟩
 ·by_cases hb:b=T
  ·subst hb;rw[AG] at e;cases e;exact new
  ·rw[AM hb] at e;refine(I.BL b u e).SU (λc v hc q=>k c v ?_ q) (λc q=>by rw[AM (Ax q hn)];exact q) λc xs q=>by rw[AM (Ax q hn)];exact q
   rcases hc with z | z
   ·rw[z];exact nit b u e
   ·exact nit c _ z
end
section
theorem o8{R:It->Hp->Prop}{J:It}{tn:Nat->Heap->Prop}(I:Inv X AF σ H s)(o:Obj)
  (T:Turn X.prog X.w X.K tg J [s.heap.objs.size] s.heap.objs.size tn) (st:tn 0 (s.heap.push o)) (q:R J H):ya X AF σ tg R (.ref s.heap.objs.size) {s with heap:=s.heap.push o,toks:=tk}:=by
 refine⟨s.heap.objs.size,[s.heap.objs.size],tn,J,H,rfl,I.kept λb ob e=>get?_push_of_some _ e,T,st,λb hb=> ?_,q⟩;have e:b=s.heap.objs.size:=by simpa using hb
 subst e;exact I.mK (Nat.le_refl _) (I.BL.fresh (Nat.le_refl _))
end
def wx(x:Str):It:=⟨λi _=>i<x.cps.size,λi H v H'=>H'=H/\∃c,x.cps[i]?=some c/\v= .str ⟨#[c]⟩,λi _=>x.cps.size<=i⟩
theorem fz(it:Addr)(x:Str)(t:Tok)(ty:String)(hty:ty= "str_ascii_iterator"\/ty= "str_iterator"):
  Turn P w K tg (wx x) [it] it (λi h=>h.IsStrIter it ty x t i) where
 mem:=by simp
 obj:=λi h st b hb=>by
  have e:b=it:=by simpa using hb
  subst e;obtain⟨o,e,c,d⟩:=st;exact⟨o,e,λv z=>by rw[d] at z;cases z⟩
 keep:=λi h h' st k=>let ⟨o,ho,r⟩:=st;⟨o,k it (by simp) o ho,r⟩
 item:=by
  intro X hP hw hK hc i AF s σ H E I hf st hg;subst hP hw hK;obtain⟨f0,f1,f2,f3,f4,f5⟩:=hf it (by simp);have W:Walks X.prog X.w X.A it [it] [it] x.cps.size (SignAt x) (λi h=>h.IsStrIter it ty x t i):=by
   rcases hty with e | e
   ·rw[e];exact Walks.strAscii (I.ok.hd hc) it x t
   ·rw[e];exact Walks.strWide (I.ok.hd hc) it x t
  have hno:["enumerate","zip","dict_itemiterator","dict_reverseitemiterator","odict_iterator","itertools.zip_longest","itertools.pairwise"].contains ty=false:=by
   rcases hty with e | e
   ·rw[e];decide
   ·rw[e];decide
  refine W.item i s _ _ hg st λv h' tk hv st' kk=> ?_;obtain⟨c,u,hcx,rfl⟩:=hv;have I1:Inv X AF σ H {s with heap:=h',toks:=tk}:=I.turned (λb o hb e=>kk b o (by simpa using hb) e) f0 f1 f3 f4 f5;obtain⟨oi,e,cc,dd⟩:=id st';exact⟨_,rfl,oJ (s:={s with heap:=h',toks:=tk}) e cc dd hno ⟨.str ⟨#[c]⟩,H,I1,⟨u,rfl⟩,⟨rfl,c,hcx,rfl⟩,st',λb hb=>(hf b hb).1⟩⟩
 done:=by
  intro X hP hw hK hc i AF s σ H E I hf st hg;subst hP hw hK;obtain⟨f0,f1,f2,f3,f4,f5⟩:=hf it (by simp);have hx:x.cps[i]?=none:=Array.getElem?_eq_none hg;rcases hty with e | e
  ·rw[e] at st;exact wpAny_pyNext_ascii_end (I.ok.hd hc) st hx λh' eb=>⟨rfl,I.turned (t':=s.toks) (λb o hb e=>eb b o hb e) f0 f1 f3 f4 f5⟩
  ·rw[e] at st;exact wpAny_pyNext_wide_end (I.ok.hd hc) st hx λh' eb=>⟨rfl,I.turned (t':=s.toks) (λb o hb e=>eb b o hb e) f0 f1 f3 f4 f5⟩
 self:=λA i s Q E st h=>by
  rcases hty with e | e
  ·rw[e] at st;exact wpAny_pyIter_striter_ascii st h
  ·rw[e] at st;exact wpAny_pyIter_striter_wide st h
def yw(te:TE):TI:=λσ H R=>te σ H λv H1=>∃x,v= .str x/\R (wx x) H1
theorem vV(he:PE X e te):PI X tg e (yw te):=by
 intro AF s σ H R I h;refine CK (he AF s σ H _ I h) ?_;rintro v s1 ⟨y,H1,I1,r1,x,ex,q⟩;subst ex;obtain⟨t,rfl⟩:=r1;cases ha:x.cps.all (·<128)
 ·exact wpAny_pyIter_wide ha (o8 (tk:=s1.toks) I1 _ (fz _ x t "str_iterator" (.inr rfl)) ⟨_,get?_push_size _ rfl,rfl,rfl⟩ q)
 ·exact wpAny_pyIter_ascii ha (o8 (tk:=s1.toks) I1 _ (fz _ x t "str_ascii_iterator" (.inl rfl)) ⟨_,get?_push_size _ rfl,rfl,rfl⟩ q)
def tU(K:Frag)(a:Addr):It:=
 ⟨λi H=>∃(xs:List V) (x:V),A4 K H a xs/\xs[i]?=some x,λi H v H'=>∃T x,v= .ref T/\H T=none/\H'=upd H T (.tup [.int (i:Nat),x])/\∀xs,A4 K H a xs->xs[i]?=some x,λi H=>∃xs:List V,A4 K H a xs/\xs.length<=i⟩
theorem mj(a e it:Addr):
  Turn P w K (.Tuple elts kk tpos) (tU K a) [e,it] e (λi h=>(∃old,IsEnum h e it ((i:Nat):Int) old)/\h.IsListIter it a i/\e≠it) where
 mem:=by simp
 obj:=λi h st b hb=>by
  obtain⟨⟨old,he⟩,⟨o,ho,hc,hd⟩,_⟩:=st;have e':b=e\/b=it:=by simpa using hb
  rcases e' with z | z
  ·rw[z];exact⟨_,he,λv q=>nomatch q⟩
  ·rw[z];exact⟨o,ho,λv q=>by rw[hd] at q;cases q⟩
 keep:=λi h h' st k=>let ⟨⟨old,he⟩,hi,hne⟩:=st;⟨⟨old,k e (by simp) _ he⟩,hi.at λo q=>k it (by simp) o q,hne⟩
 item:=by
  intro X hP hw hK hc i AF s σ H E I hf st hg;subst hP hw hK;obtain⟨⟨old,he⟩,hit,hne⟩:=st;obtain⟨xs,x,hq,hx⟩:=hg;obtain⟨A7,rv,p,hz⟩:=I.list hq;obtain⟨u,hu,ru⟩:=rv.get hx;have hel:e<s.heap.objs.size:=lt_size he;have hil:it<s.heap.objs.size:=by obtain⟨_,q,_⟩:=hit;exact lt_size q
  refine wpAny_pyNext_enum_item he hit p.isList (x:=u) (by simpa using hu) hne λh' ho hit' hT hsz hk=> ?_;refine⟨_,rfl,wpAny_letOwnedTupleGo_enum (s:={s with heap:=h',toks:=s.toks+1}) ho λh'' he' sb=> ?_⟩;have hT2:h''.get? s.heap.objs.size=some {cls:= .type "tuple",data:= .seq #[.int i s.toks,u]}:=(sb.2 _ (ne_of_gt hel)).trans hT;have new:CT X.prog X.w (upd H s.heap.objs.size (.tup [.int (i:Nat),x])) h'' s.heap.objs.size (.tup [.int (i:Nat),x]):=
   ⟨by show 2<=sizeLine;decide,[.int i s.toks,u],.cons ⟨_,rfl⟩ (.cons ru .nil),⟨_,hT2,rfl,_,rfl⟩⟩
  have I1:Inv X AF σ (upd H s.heap.objs.size (.tup [.int (i:Nat),x])) {s with heap:=h'',toks:=s.toks+1}:=
   I.b7 (ch:=[e,it]) (λb ob hb q=>(sb.2 b (λz=>hb (by simp[z]))).trans (hk b ob (λz=>hb (by simp[z])) (λz=>hb (by simp[z])) q)) hf (Nat.le_refl _) new
  refine⟨.ref s.heap.objs.size,_,I1,rfl,⟨_,x,rfl,I.BL.fresh (Nat.le_refl _),rfl,λys hy=>by rw[I.Ur hy hq];exact hx⟩,⟨⟨u,?_⟩,hit'.at λo q=>(sb.2 it (Ne.symm hne)).trans q,hne⟩,λb hb=> ?_⟩
  ·have e1:((i+1:Nat):Int)=(i:Int)+1:=by lia
   rw[e1];exact he'
  ·have hb':b<s.heap.objs.size:=by
    have e':b=e\/b=it:=by simpa using hb
    rcases e' with z | z
    ·rw[z];exact hel
    ·rw[z];exact hil
   rw[AM (ne_of_lt hb')];exact(hf b hb).1
 done:=by intro X hP hw hK hc i AF s σ H E I hf st hg;subst hP hw hK;obtain⟨⟨old,he⟩,hit,hne⟩:=st;obtain⟨xs,hq,hx⟩:=hg;obtain⟨A7,rv,p,hz⟩:=I.list hq;obtain⟨f0,f1,f2,f3,f4,f5⟩:=hf it (by simp);have hl:=rv.length;exact wpAny_pyNext_enum_end (I.ok.hd hc) he hit p.isList (by simp;lia) λh' eb=>⟨rfl,I.turned (t':=s.toks) (λb o hb q=>eb b o hb q) f0 f1 f3 f4 f5⟩
 self:=λA i s Q E st h=>let ⟨⟨_,he⟩,_⟩:=st;wpAny_pyIter_enum he h
def uF(K:Frag)(ta:TA):TI:=λσ H R=>ta σ H λvs H1=>∃a xs,vs=[.ref a]/\A4 K H1 a xs/\R (tU K a) H1
theorem kz{ta:TA}{pos:Pos}(hg:Gl X "enumerate")(hm:X.mg "enumerate"=none)(ha:PA X [e] ta)(hs:starEach [e] X.env=[(false,eval e X.env)]:=by rfl):
  PI X (.Tuple elts kk tpos) (.Call (.Name "enumerate" p) [e] [] pos) (uF X.K ta):=by
 intro AF s σ H R I h;refine Call_ (OQ I hg hm boot_enumerate (PyProof.Rows.callWith_type1 (CK (ha pos AF s σ H _ I h) ?_) hs rfl));rintro us s1 ⟨vs,H1,I1,r1,q1⟩;obtain⟨a,xs,ex,hq,q⟩:=q1;subst ex;cases r1 with
 |cons r rr=>
  cases rr;cases r;obtain⟨A7,rv,p',hz⟩:=I1.list hq;refine call_enumerate_list p'.isList λh' he hit hsz hk=>wpAny_pyIter_enum he ?_;have I2:Inv X AF σ H1 {s1 with heap:=h'}:=I1.kept (t':=s1.toks) hk;refine⟨s1.heap.objs.size+1,[s1.heap.objs.size+1,s1.heap.objs.size],_,_,H1,rfl,I2,mj a (s1.heap.objs.size+1) s1.heap.objs.size,⟨⟨.none,he⟩,hit,Nat.succ_ne_self _⟩,λb hb=> ?_,q⟩;have e':b=s1.heap.objs.size+1\/b=s1.heap.objs.size:=by simpa using hb
  have hle:s1.heap.objs.size<=b:=by
   rcases e' with z | z
   ·rw[z];exact le_add_right _ _
   ·rw[z];exact Nat.le_refl _
  exact I1.mK hle (I1.BL.fresh hle)
theorem ml:bootBuiltins "zip"=some (.type "zip"):=by decide+kernel
def tV(K:Frag)(a b:Addr):It:=
 ⟨λi H=>∃(xs ys:List V) (x y:V),A4 K H a xs/\A4 K H b ys/\xs[i]?=some x/\ys[i]?=some y,
  λi H v H'=>∃T x y,v= .ref T/\H T=none/\H'=upd H T (.tup [x,y])/\(∀xs,A4 K H a xs->xs[i]?=some x)/\∀ys,A4 K H b ys->ys[i]?=some y,
  λi H=>∃xs ys:List V,A4 K H a xs/\A4 K H b ys/\(xs.length<=i\/ys.length<=i)⟩
theorem qF{z TI TO i1 i2:Addr}(D:ZipApart z TI TO i1 i2 a b):
  Turn P w K (.Tuple elts kk tpos) (tV K a b) [z,TI,TO,i1,i2] z (λi h=>IsZip h z TI TO .none/\IsPair h TI (.ref i1) (.ref i2)/\(∃x y,IsPair h TO x y)/\h.IsListIter i1 a i/\h.IsListIter i2 b i) where
 mem:=by simp
 obj:=λi h st c hc=>by
  obtain⟨hz,hTI,⟨x,y,hTO⟩,⟨o1,e1,_,d1⟩,⟨o2,e2,_,d2⟩⟩:=st;have e':c=z\/c=TI\/c=TO\/c=i1\/c=i2:=by simpa using hc
  rcases e' with q | q | q | q | q
  ·rw[q];exact⟨_,hz,λv q=>nomatch q⟩
  ·rw[q];exact⟨_,hTI,λv q=>nomatch q⟩
  ·rw[q];exact⟨_,hTO,λv q=>nomatch q⟩
  ·rw[q];exact⟨o1,e1,λv q=>by rw[d1] at q;cases q⟩
  ·rw[q];exact⟨o2,e2,λv q=>by rw[d2] at q;cases q⟩
 keep:=λi h h' st k=>by obtain⟨hz,hTI,⟨x,y,hTO⟩,h1,h2⟩:=st;exact⟨k z (by simp) _ hz,k TI (by simp) _ hTI,⟨x,y,k TO (by simp) _ hTO⟩,h1.at λo q=>k i1 (by simp) o q,h2.at λo q=>k i2 (by simp) o q⟩
 item:=by
  intro X hP hw hK hc i AF s σ H E I hf st hg;subst hP hw hK;obtain⟨hz,hTI,⟨x0,y0,hTO⟩,h1,h2⟩:=st;obtain⟨xs,ys,x,y,hqx,hqy,hx,hy⟩:=hg;obtain⟨A7,rv,p,_⟩:=I.list hqx;obtain⟨its2,rv2,p2,_⟩:=I.list hqy;obtain⟨u,hu,ru⟩:=rv.get hx;obtain⟨u2,hu2,ru2⟩:=rv2.get hy;have hzl:z<s.heap.objs.size:=lt_size hz;refine wpAny_pyNext_zip_item D hz hTI hTO h1 h2 p.isList p2.isList (x:=u) (y:=u2) (by simpa using hu) (by simpa using hu2) λh' z' TO' h1' h2' hT hsz hk=> ?_;refine⟨_,rfl,wpAny_letOwnedTupleGo_zip (s:={s with heap:=h'}) z' λh'' z'' sb=> ?_⟩;have hT2:h''.get? s.heap.objs.size=some {cls:= .type "tuple",data:= .seq #[u,u2]}:=(sb.2 _ (ne_of_gt hzl)).trans hT;have new:CT X.prog X.w (upd H s.heap.objs.size (.tup [x,y])) h'' s.heap.objs.size (.tup [x,y]):=
   ⟨by show 2<=sizeLine;decide,[u,u2],.cons ru (.cons ru2 .nil),⟨_,hT2,rfl,_,rfl⟩⟩
  have I1:Inv X AF σ (upd H s.heap.objs.size (.tup [x,y])) {s with heap:=h''}:=
   I.b7 (t':=s.toks) (ch:=[z,TI,TO,i1,i2]) (λc o hb q=>(sb.2 c (λq'=>hb (by simp[q']))).trans (hk c o (λq'=>hb (by simp[q'])) (λq'=>hb (by simp[q'])) (λq'=>hb (by simp[q'])) (λq'=>hb (by simp[q'])) q)) hf (Nat.le_refl _) new
  refine⟨.ref s.heap.objs.size,_,I1,rfl,⟨_,x,y,rfl,I.BL.fresh (Nat.le_refl _),rfl,λl hl=>by rw[I.Ur hl hqx];exact hx,λl hl=>by rw[I.Ur hl hqy];exact hy⟩,⟨z'',?_,⟨u,u2,?_⟩,?_,?_⟩,λc hcm=> ?_⟩
  ·exact(sb.2 _ D.TIz).trans (hk _ _ D.TIz D.TITO D.TIi1 D.TIi2 hTI)
  ·exact(sb.2 _ D.TOz).trans TO'
  ·exact h1'.at λo q=>(sb.2 _ D.i1z).trans q
  ·exact h2'.at λo q=>(sb.2 _ D.i2z).trans q
  ·have hlt:c<s.heap.objs.size:=by
    have e':c=z\/c=TI\/c=TO\/c=i1\/c=i2:=by simpa using hcm
    rcases e' with q | q | q | q | q
    ·rw[q];exact hzl
    ·rw[q];exact lt_size hTI
    ·rw[q];exact lt_size hTO
    ·rw[q];obtain⟨_,e1,_⟩:=h1;exact lt_size e1
    ·rw[q];obtain⟨_,e2,_⟩:=h2;exact lt_size e2
   rw[AM (ne_of_lt hlt)];exact(hf c hcm).1
 done:=by
  intro X hP hw hK hc i AF s σ H E I hf st hg;subst hP hw hK;obtain⟨hz,hTI,⟨x0,y0,hTO⟩,h1,h2⟩:=st;obtain⟨xs,ys,hqx,hqy,hend⟩:=hg;obtain⟨A7,rv,p,_⟩:=I.list hqx;obtain⟨its2,rv2,p2,_⟩:=I.list hqy;have l1:=rv.length;have l2:=rv2.length;have he:A7.toArray[i]?=none\/its2.toArray[i]?=none:=by
   rcases hend with q | q
   ·exact .inl (by simp;lia)
   ·exact .inr (by simp;lia)
  exact wpAny_pyNext_zip_end (I.ok.hd hc) D hz hTI hTO h1 h2 p.isList p2.isList he λh' hk=>⟨rfl,I.r9 (t':=s.toks) (ch:=[z,TI,TO,i1,i2]) (λc o hb q=>hk c o (λq'=>hb (by simp[q'])) (λq'=>hb (by simp[q'])) (λq'=>hb (by simp[q'])) (λq'=>hb (by simp[q'])) q) hf⟩
 self:=λA i s Q E st h=>wpAny_pyIter_zip st.1 h
def xf(K:Frag)(ta:TA):TI:=λσ H R=>ta σ H λvs H1=>∃a b xs ys,vs=[.ref a,.ref b]/\A4 K H1 a xs/\A4 K H1 b ys/\R (tV K a b) H1
theorem i8{e2:Expr}{ta:TA}{pos:Pos}(hg:Gl X "zip")(hm:X.mg "zip"=none)(ha:PA X [e,e2] ta)
  (hs:starEach [e,e2] X.env=(false,eval e X.env)::starEach [e2] X.env:=by rfl) (hpl:(backTo pos (starEach [e2] X.env)).any (·.1)=false:=by rfl):
  PI X (.Tuple elts kk tpos) (.Call (.Name "zip" p) [e,e2] [] pos) (xf X.K ta):=by
 intro AF s σ H R I h;refine Call_ (OQ I hg hm ml (PyProof.Rows.callWith_type1 (CK (ha pos AF s σ H _ I h) ?_) hs hpl));rintro us s1 ⟨vs,H1,I1,r1,q1⟩;obtain⟨a,b,xs,ys,ex,hqx,hqy,q⟩:=q1;subst ex;cases r1 with
 |cons r rr=>
  cases rr with
  |cons r' rr=>
   cases rr;cases r;cases r';obtain⟨A7,rv,p1,_⟩:=I1.list hqx;obtain⟨its2,rv2,p2,_⟩:=I1.list hqy;have la:a<s1.heap.objs.size:=p1.lt;have lb:b<s1.heap.objs.size:=p2.lt;refine call_zip_2 p1.isList p2.isList λh' hz hTI hTO h1 h2 hsz hk=>wpAny_pyIter_zip hz ?_;have I2:Inv X AF σ H1 {s1 with heap:=h'}:=I1.kept (t':=s1.toks) hk;refine⟨s1.heap.objs.size+4,[s1.heap.objs.size+4,s1.heap.objs.size+2,s1.heap.objs.size+3,s1.heap.objs.size,s1.heap.objs.size+1],_,_,H1,rfl,I2,qF (PySem.W.ktu_apart s1.heap.objs.size a b la lb),⟨hz,hTI,⟨_,_,hTO⟩,h1,h2⟩,λc hcm=> ?_,q⟩;have e':c=s1.heap.objs.size+4\/c=s1.heap.objs.size+2\/c=s1.heap.objs.size+3\/c=s1.heap.objs.size\/c=s1.heap.objs.size+1:=by simpa using hcm
   have hle:s1.heap.objs.size<=c:=by
    rcases e' with z | z | z | z | z
    ·rw[z];exact le_add_right _ _
    ·rw[z];exact le_add_right _ _
    ·rw[z];exact le_add_right _ _
    ·rw[z];exact Nat.le_refl _
    ·rw[z];exact le_add_right _ _
   exact I1.mK hle (I1.BL.fresh hle)
end L2
section
namespace TL
open PySem PySem.Builtin PySem.Builtin.Str PySem.StrLaws
abbrev tl(x:Str):List Nat:=x.cps.toList
theorem Yl(x:Str):x.length=(tl x).length:=by simp[tl,Str.length]
theorem Tz{y:Str}(h:tl x=tl y):x=y:=Str.ext' (Array.toList_inj.mp h)
theorem Kd(x y:Str):tl (x++y)=tl x++tl y:=by show (x++y).cps.toList=_;rw[Str.cps_append,Array.toList_append]
theorem W0(s:String):tl (Str.ofString s)=s.toList.map Char.toNat:=PyProof.Rows.signs_ofString s
def bR(S:List Nat):List (List Nat)->List Nat
 | []=> []
 | [p]=>p
 |p::q::r=>p++(S++bR S (q::r))
theorem dg(y:Str):∀parts:List Str,tl (Str.join y parts)=bR (tl y) (parts.map tl)
 | []=>rfl
 | [_]=>rfl
 |x::z::r=>by show tl (x++y++Str.join y (z::r))=tl x++(tl y++bR (tl y) ((z::r).map tl));rw[Kd,Kd,dg y (z::r),append_assoc]
theorem join_eq(y:Str)(parts:List Str):Txt.join y parts=Str.join y parts:=glued_eq_join y parts
def Pt(n:Nat):List Nat:=(toDigits 10 n).map Char.toNat
theorem Me(n:Nat):tl (Str.ofString (toString ((n:Nat):Int)))=Pt n:=PySem.W.KIN.signs_num n
theorem Sl:∀d:Nat,d<10->(digitChar d).toNat=48+d:=by decide
theorem k8(h:n<10):Pt n=[48+n]:=by unfold Pt;rw[Nat.toDigits_of_lt_base h];show [(digitChar n).toNat]=_;rw[Sl n h]
theorem b8(h:10<=n):Pt n=Pt (n / 10)++ [48+n % 10]:=by have hm:n % 10<10:=mod_lt n (by decide);have t:toDigits 10 (n / 10)++toDigits 10 (n % 10)=toDigits 10 (10 * (n / 10)+n % 10):=Nat.toDigits_append_toDigits (by decide) (by lia) hm;rw[Nat.div_add_mod] at t;show (toDigits 10 n).map Char.toNat=_;rw[<-t,map_append,Nat.toDigits_of_lt_base hm];show (toDigits 10 (n / 10)).map Char.toNat++ [(digitChar (n % 10)).toNat]=_;rw[Sl _ hm]<;>rfl
theorem W2(n:Nat):NumText.AllDigits (Pt n):=by
 induction n using Nat.strongRecOn with
 |_ n ih=>
  by_cases h:n<10
  ·rw[k8 h];intro c hc;rw[mem_singleton.mp hc]
   lia
  ·rw[b8 (by lia)];intro c hc;rcases mem_append.mp hc with hc | hc
   ·exact ih (n / 10) (by lia) c hc
   ·have hm:n % 10<10:=mod_lt n (by decide);rw[mem_singleton.mp hc]
    lia
theorem sC(n:Nat):Pt n≠ []:=by
 by_cases h:n<10
 ·rw[k8 h];simp
 ·rw[b8 (by lia)];simp
theorem qG(n:Nat):NumText.digitsVal (Pt n)=n:=PySem.W.KIN.val_back n
theorem f6{k:Nat}(hk:0<k)(h:n<10 ^ k):(Pt n).length<=k:=by
 have z:=PyProof.Rows.toString_length_le (v:=(n:Int)) (by lia) hk (by
  have e:((10:Int) ^ k)=((10 ^ k:Nat):Int):=by
   first
    |exact(Int.natCast_pow 10 k).symm
    |simp
  rw[e]
  first | exact Int.ofNat_lt.mpr h | lia)
 rw[Yl,Me] at z;exact z
theorem sE(h:(Pt n).length<=4300):intText? (Str.ofString (toString ((n:Nat):Int)))=some (n:Int):=by
 have e:=intText_digits (x:=Str.ofString (toString ((n:Nat):Int))) (by rw[show (Str.ofString (toString ((n:Nat):Int))).cps.toList=Pt n from Me n];exact W2 n)
  (by rw[show (Str.ofString (toString ((n:Nat):Int))).cps.toList=Pt n from Me n];exact sC n) (by rw[Yl,Me];exact h)
 rw[show (Str.ofString (toString ((n:Nat):Int))).cps.toList=Pt n from Me n,qG] at e;exact e
end TL
end
namespace L2
open PySem PySem.Spec PyProof.Rows
theorem Oi:∀{ys:List Str} {us:List Value},Vals (ys.map V.str) us->StrsAre us ys
 | [],_,.nil=> .nil
 |y::ys,_,.cons r t=>by obtain⟨k,rfl⟩:=r;exact .cons y k (Oi t)
section
theorem sF:wq X "str.join" (λx xs H Q=>∃a p,∃ys:List Str,x= .str a/\xs=[.ref p]/\(A4 X.K H p (ys.map V.str)\/YO X.K H p (ys.map V.str))/\
  (ys.map (·.length)).sum+ys.length * a.length<=16777216/\Q (.str (Txt.join a ys)) H):=by
 intro AF s σ H x xs v us Q I rx rs h;obtain⟨a,p,ys,rfl,rfl,hp,hz,h⟩:=h;obtain⟨t,rfl⟩:=rx;cases rs with
 |cons r1 rs=>
  cases rs;cases r1;rcases hp with hp | hp
  ·obtain⟨A7,r,⟨o,n,ho,hc,_,hd⟩,_⟩:=I.list hp;exact join_list (items:=A7.toArray) ⟨o,ho,hc,n,hd⟩ (by rw[List.toList_toArray];exact Oi r) hz λt' k=>⟨.str _,H,I.tok k,⟨t',rfl⟩,h⟩
  ·obtain⟨A7,r,ht,_⟩:=I.tuple hp;exact join_tuple (items:=A7.toArray) ht (by rw[List.toList_toArray];exact Oi r) hz λt' k=>⟨.str _,H,I.tok k,⟨t',rfl⟩,h⟩
theorem Ew:Ji X (.type "int") (λxs H Q=>∃a n,xs=[.str a]/\PySem.intText? a=some n/\a.length<=640/\Q (.int n) H):=by
 intro AF s σ H xs us Q I rs h;obtain⟨a,n,rfl,hn,hl,h⟩:=h;cases rs with
 |cons r1 rs=>
  cases rs;obtain⟨t,rfl⟩:=r1;exact PySem.W.KIN.call_text hn hl ⟨.int n,H,I.tok _,⟨_,rfl⟩,h⟩
end
section
variable{o:Expr}
def yh(r:V->List V->Hp->VK->Prop)(to te:TE):TE:=λσ H Q=>to σ H λx H1=>(∃a,x= .str a)/\te σ H1 λy H2=>r x [y] H2 Q
theorem xy{id:String}{pos:Pos}{r:V->List V->Hp->VK->Prop}(slot:Slot "str" name id)(ty:typeOf (.builtin id)=pure (.type "method_descriptor"))(rule:wq X id r)(ho:PE X o to)(he:PE X e te)
  (hs:starEach [e] X.env=[(false,eval e X.env)]:=by rfl) (hbase:attributeBase o name X.env (eval o X.env)=eval o X.env:=by rfl) (hline:(apos.endLine==pos.line)=true:=by rfl):
  PE X (.Call (.Attribute o name apos) [e] [] pos) (yh r to te):=by
 intro AF s σ H Q I h;refine PySem.Call_method1 hbase hs hline (CK (ho AF s σ H _ I h) ?_);rintro v s1 ⟨x,H1,I1,r1,q1⟩;obtain⟨⟨a,rfl⟩,q1⟩:=q1;obtain⟨t,rfl⟩:=_root_.id r1;refine⟨"str",_,F.plainAttrs_str,slot,ty,typeIs_str _ _ _,(λ_ e=>nomatch e),Calls.callWith_builtin rfl (Calls.evalArgs_plain (Calls.spliced_cons ?_))⟩;exact CK (he AF s1 σ H1 _ I1 q1) λu s2 ⟨y,H2,I2,r2,q2⟩=>Calls.spliced_nil (rule AF s2 σ H2 _ [y] _ [u] Q I2 r1 (.cons r2 .nil) q2)
theorem X6{pos:Pos}(ho:PE X o to)(he:PE X e te)(hs:starEach [e] X.env=[(false,eval e X.env)]:=by rfl)(hbase:attributeBase o "join" X.env (eval o X.env)=eval o X.env:=by rfl)(hline:(apos.endLine==pos.line)=true:=by rfl):
  PE X (.Call (.Attribute o "join" apos) [e] [] pos) (yh (λx xs H Q=>∃a p,∃ys:List Str,x= .str a/\xs=[.ref p]/\(A4 X.K H p (ys.map V.str)\/YO X.K H p (ys.map V.str))/\
   (ys.map (·.length)).sum+ys.length * a.length<=16777216/\Q (.str (Txt.join a ys)) H) to te):=
 xy F.slot_str_join F.type_str_join sF ho he hs hbase hline
end
end L2
namespace L2
open PySem PySem.Spec PyProof.Rows
def Aa(s:Stmt)(j:Nat):Stmt:=match s with
 | .ClassDef _ _ _ body _ _ _ _ _ _ _=>body.getD j (.Pass ⟨0,0,0,0⟩)
 |_=> .Pass ⟨0,0,0,0⟩
def KW(s:Stmt):Arguments:=match s with
 | .FunctionDef _ a _ _ _ _ _ _ _ _=>a
 |_=>{posonlyargs:=[],args:=[],vararg:=none,kwonlyargs:=[],kw_defaults:=[],kwarg:=none,defaults:=[]}
def EF(s:Stmt):List Stmt:=match s with
 | .FunctionDef _ _ b _ _ _ _ _ _ _=>b
 |_=> []
def AI(s:Stmt):Scope:=match s with
 | .FunctionDef _ _ _ _ _ _ sc _ _ _=>sc
 |_=>{kind:= .function,names:=[],isGenerator:=false,isCoroutine:=false}
structure Bm(K:Frag)(x qual:Str)(st:Stmt)(f:Addr)(fd:FuncData):Prop where
 ex:∃(oc:Value) (od:Option Addr) (kV doc pm:Value) (an:Option Addr) (He ct:Value) (osl:Array (Option Value)),
  fd=fnOf x qual (KW st) (EF st) (AI st) .none kV doc pm an He ct/\K.lookup f=some ⟨oc,od,.func fd,osl⟩/\codeIn K He qual=true
 kp:keepIn K (.ref f)=true
section
theorem Bm.binds{st:Stmt}(F:Bm K x qual st f fd)
  (h:∀(kV doc pm:Value) (an:Option Addr) (He ct:Value) (us:List Value),us.length=ps.length->bindArgs (fnOf x qual (KW st) (EF st) (AI st) .none kV doc pm an He ct) ⟨us,[]⟩=pure (ps.zip us)):AW K fd ps []:=by
 obtain⟨oc,od,kV,doc,pm,an,He,ct,osl,rfl,lk,hcd⟩:=F.ex;exact .all (h kV doc pm an He ct)
theorem vW{st:Stmt}{oc:Value}{od an:Option Addr}{osl:Array (Option Value)}{kV doc He ct:Value}(l:K.lookup f=some ⟨oc,od,.func (fnOf x qual (KW st) (EF st) (AI st) .none kV doc pm an He ct),osl⟩)
  (c:codeIn K He qual=true) (k:keepIn K (.ref f)=true):Bm K x qual st f (fnOf x qual (KW st) (EF st) (AI st) .none kV doc pm an He ct):=⟨⟨oc,od,kV,doc,pm,an,He,ct,osl,rfl,l,c⟩,k⟩
end
theorem YZ{k:Nat}(hr:Dc k A):A.units+1<cLine:=Nat.lt_of_le_of_lt (Nat.add_le_add_left (by decide:1<=64) _) hr.units
section
theorem pv(i:Nat){pos:Pos}(hN:X.N[i]?=some x:=by rfl)(hv:wZ X.env.scope x:=by first | exact Or.inl rfl | exact Or.inr (Or.inl rfl) | exact Or.inr (Or.inr rfl))(hd:(x==("__debug__":Str))=false:=by decide)
  (hcd:(x==("__classdict__":Str))=false:=by decide):PE X (.Name x pos) (ue i):=vC hN hv hd hcd
theorem Nq:Ji X (.builtin "len") (λxs H Q=>∃a kvs,xs=[V.ref a]/\H a=some (.dK kvs)/\Q (.int kvs.length) H):=by intro AF s σ H xs us Q I r h;obtain⟨a,kvs,rfl,ha,q⟩:=h;obtain⟨u,rfl,ru⟩:=vals1 r;cases ru;exact xw I (.inl ha) λt s' I'=>⟨.int kvs.length,H,I',⟨t,rfl⟩,q⟩
end
theorem Az{c A B:Prop} [Decidable c](h1:c->A)(h2:¬c->B):if c then A else B:=by
 by_cases h:c
 ·rw[if_pos h];exact h1 h
 ·rw[if_neg h];exact h2 h
def AR(H H':Hp):Prop:=∀b o,H b=some o->H' b=some o
theorem AR.refl(H:Hp):AR H H:=λ_ _ h=>h
theorem AR.trans{H2:Hp}(a:AR H H1)(b:AR H1 H2):AR H H2:=λc o h=>b c o (a c o h)
theorem AR.free(e:AR H H')(h:H' l=Option.none):H l=Option.none:=by
 cases q:H l with
 |none=>rfl
 |some o=>rw[e l o q] at h;cases h
theorem AR.seq(e:AR H H')(h:A4 K H a xs):A4 K H' a xs:=by
 rcases h with(h | ⟨o,h⟩) | h
 ·exact .inl (.inl (e _ _ h))
 ·exact .inl (.inr ⟨o,e _ _ h⟩)
 ·exact .inr h
section
variable{κ:Type} [DecidableEq κ]
theorem qH{kvs:List (κ×V)}{k:κ}(h:EL kvs k=none):¬k∈kvs.map (·.1):=by intro m;obtain⟨p,hp,e⟩:=mem_map.mp m;have q:(kvs.any λkv=>decide (kv.1=k))=true:=any_eq_true.mpr ⟨p,hp,decide_eq_true e⟩;rw[Ks,h] at q;exact absurd q (by simp)
theorem X7{kvs:List (κ×V)}{k:κ}{v:V}(h:EL kvs k=some v):k∈kvs.map (·.1):=by
 have q:(kvs.any λkv=>decide (kv.1=k))=true:=by
  rw[Ks,h]
  all_goals rfl
 obtain⟨p,hp,e⟩:=any_eq_true.mp q;exact mem_map.mpr ⟨p,hp,of_decide_eq_true e⟩
end
theorem AR.made{x:Addr}(nx:H x=Option.none)(nd:H dx=Option.none)(k:∀b o,(upd (upd H dx (.own x)) x (.ins C dx [])) b=some o->b≠x->H1 b=some o):AR H H1:=λb o e=>k b o (by rw[AM (Ax e nx),AM (Ax e nd)];exact e) (Ax e nx)
end L2
section
namespace L2
open PySem PySem.Spec PyProof.Rows
open PySem.W (WData Codec OpenSpec Well WellAll ReadsW ReadsAllW)
mutual
inductive Dw(K:Frag)(H:Hp):V->WData->Prop
 |Fn:Dw K H .Fn .none
 |bl (b:Bool):Dw K H (.bl b) (.bool b)
 |int (i:Int):Dw K H (.int i) (.int i)
 |str (x:Str):Dw K H (.str x) (.str x)
 |iP (b:Array UInt8):Dw K H (.iP b) (.bytes b.toList)
 |lst {a:Addr} {xs:List V} {ds:List WData}:A4 K H a xs->QE K H xs ds->Dw K H (.ref a) (.list ds)
 |tup {a:Addr} {xs:List V} {ds:List WData}:YO K H a xs->QE K H xs ds->Dw K H (.ref a) (.tuple ds)
inductive QE(K:Frag)(H:Hp):List V->List WData->Prop
 |nil:QE K H [] []
 |cons {v:V} {vs:List V} {d:WData} {ds:List WData}:Dw K H v d->QE K H vs ds->QE K H (v::vs) (d::ds)
end
theorem k9{K:Frag}{H:Hp}:∀ns:List Int,QE K H (ns.map V.int) (ns.map WData.int)
 | []=> .nil
 |n::r=> .cons (.int n) (k9 r)
theorem lA{K:Frag}{H:Hp}:∀(ns:List Int) (xs:List V),QE K H xs (ns.map WData.int)->xs=ns.map V.int
 | [],xs,h=>by
  cases h;rfl
 |n::r,xs,h=>by
  cases h with
  |cons h1 h2=>
   cases h1;rw[lA r _ h2]<;>rfl
section
variable{R:WRecords}{cl:Str->Option Addr}
theorem vX(BL:Ma P w H h)(KX:K.In h)(q:A4 K H a xs):∃(A7:List Value) (o:Obj) (n:Nat),Vals xs A7/\h.get? a=some o/\o.cls= .type "list"/\o.data= .seq A7.toArray n:=by
 rcases q with q | ⟨o,A7,n,e,hc,_,hd,_,hv⟩
 ·obtain⟨_,A7,n,hv,e⟩:=(show CT P w H h a (.lst xs) from q.ok BL);exact⟨A7,_,n,hv,e,rfl,rfl⟩
 ·exact⟨A7.toList,o,n,hv,KX _ _ e,hc,by simp[hd]⟩
theorem vY(BL:Ma P w H h)(KX:K.In h)(q:YO K H a xs):∃(A7:List Value) (o:Obj) (n:Nat),Vals xs A7/\h.get? a=some o/\o.cls= .type "tuple"/\o.data= .seq A7.toArray n:=by
 rcases q with q | ⟨o,A7,n,e,hc,hd,_,hv⟩
 ·obtain⟨_,A7,hv,o,e,hc,n,hd⟩:=(show CT P w H h a (.tup xs) from q.ok BL);exact⟨A7,o,n,hv,e,hc,hd⟩
 ·exact⟨A7.toList,o,n,hv,KX _ _ e,hc,by simp[hd]⟩
mutual
theorem Dw.reads(BL:Ma P w H h)(KX:K.In h):∀(d:WData) (v:V) (u:Value),Dw K H v d->BI v u->∃as,ReadsW R cl h u d as
 | .none,_,_,x,r=>by
  cases x;cases r;exact⟨_,ReadsW.none⟩
 | .bool b,_,_,x,r=>by
  cases x;cases r;exact⟨_,ReadsW.bool b⟩
 | .int i,_,_,x,r=>by
  cases x;obtain⟨t,rfl⟩:=r;exact⟨_,ReadsW.int i t⟩
 | .str s,_,_,x,r=>by
  cases x;obtain⟨t,rfl⟩:=r;exact⟨_,ReadsW.str s t⟩
 | .bytes b,_,_,x,r=>by
  cases x;obtain⟨t,rfl⟩:=r;exact⟨_,ReadsW.bytes _ t⟩
 | .list ds,_,_,x,r=>by
  cases x with
  |lst hs ha=>
   cases r;obtain⟨A7,o,n,rv,ho,hc,hd⟩:=vX BL KX hs;obtain⟨as,hr⟩:=Dw.readsAll BL KX ds _ A7 ha rv;exact⟨_,ReadsW.list ho hc hd hr⟩
 | .tuple ds,_,_,x,r=>by
  cases x with
  |tup hs ha=>
   cases r;obtain⟨A7,o,n,rv,ho,hc,hd⟩:=vY BL KX hs;obtain⟨as,hr⟩:=Dw.readsAll BL KX ds _ A7 ha rv;exact⟨_,ReadsW.tuple ho hc hd hr⟩
 | .float _,_,_,x,_=>by cases x
 | .dict _,_,_,x,_=>by cases x
 | .bytearray _,_,_,x,_=>by cases x
 | .set _,_,_,x,_=>by cases x
 | .frozenset _,_,_,x,_=>by cases x
 | .obj _ _,_,_,x,_=>by cases x
theorem Dw.readsAll(BL:Ma P w H h)(KX:K.In h):∀(ds:List WData) (vs:List V) (us:List Value),QE K H vs ds->Vals vs us->∃as,ReadsAllW R cl h us ds as
 | [],_,_,x,r=>by
  cases x;cases r;exact⟨_,ReadsAllW.nil⟩
 |d::ds,_,_,x,r=>by
  cases x with
  |cons h1 h2=>
   cases r with
   |cons r1 r2=>obtain⟨as,q1⟩:=Dw.reads BL KX d _ _ h1 r1;obtain⟨bs,q2⟩:=Dw.readsAll BL KX ds _ _ h2 r2;exact⟨_,ReadsAllW.cons q1 q2⟩
end
end
mutual
def kE:WData->Bool
 | .none=>true
 | .bool _=>true
 | .int _=>true
 | .str _=>true
 | .bytes _=>true
 | .list xs=>Xm xs
 | .tuple xs=>Xm xs
 |_=>false
def Xm:List WData->Bool
 | []=>true
 |x::r=>kE x && Xm r
end
theorem f7{α:Type}{f:α->WData}(h:∀a,kE (f a)=true):∀l:List α,Xm (l.map f)=true
 | []=>rfl
 |x::r=>by show (kE (f x) && Xm (r.map f))=true;rw[h x,f7 h r]<;>rfl
theorem QH:∀(c:Codec) (a:c.denote),kE (c.enc a)=true
 | .unit,_=>rfl
 | .bool,_=>rfl
 | .int _ _,_=>rfl
 | .nat _ _,_=>rfl
 | .u8,_=>rfl
 | .bytes _ _,_=>rfl
 | .text _ _ _ _,_=>rfl
 | .list _ _ c,a=>f7 (λx=>QH c x) a
 | .pair c d,a=>by show (kE (c.enc a.1) && (kE (d.enc a.2) && true))=true;rw[QH c a.1,QH d a.2]<;>rfl
 | .triple c d e,a=>by show (kE (c.enc a.1) && (kE (d.enc a.2.1) && (kE (e.enc a.2.2) && true)))=true;rw[QH c a.1,QH d a.2.1,QH e a.2.2]<;>rfl
 | .option c,none=>rfl
 | .option c,some x=>QH c x
theorem b9:∀(cs:List Codec) (a:Codec.denoteAll cs),Xm (Codec.encAll cs a)=true
 | [],_=>rfl
 |c::cs,a=>by show (kE (c.enc a.1) && Xm (Codec.encAll cs a.2))=true;rw[QH c a.1,b9 cs a.2]<;>rfl
theorem T4:∀{xs:List WData} {d:WData},d∈xs->d.weight<=WData.weightAll xs
 | [],d,h=>absurd h (by simp)
 |x::r,d,h=>by
  show d.weight<=x.weight+1+WData.weightAll r;rcases mem_cons.mp h with e | m
  ·rw[e]
   lia
  ·have z:=T4 m
   lia
def toV:Value->V
 | .none=> .Fn
 | .bool b=> .bl b
 | .int i _=> .int i
 | .str x _=> .str x
 | .bytes b _=> .iP b
 | .ref a=> .ref a
 |_=> .Fn
def mJ(A:List Addr):Value->Prop
 | .none=>True
 | .bool _=>True
 | .int _ _=>True
 | .str _ _=>True
 | .bytes _ _=>True
 | .ref a=>a∈A
 |_=>False
theorem mJ.mono{A B:List Addr}(h:∀a∈A,a∈B):∀{u:Value},mJ A u->mJ B u:=λ{u} x=>by
 cases u with
 |ref a=>exact h a x
 |none=>trivial
 |bool b=>trivial
 |int i t=>trivial
 |str s t=>trivial
 |bytes b t=>trivial
 |_=>exact False.elim x
theorem qI{A:List Addr}(x:mJ A u):BI (toV u) u:=by
 cases u with
 |ref a=>rfl
 |none=>rfl
 |bool b=>rfl
 |int i t=>exact⟨t,rfl⟩
 |str s t=>exact⟨t,rfl⟩
 |bytes b t=>exact⟨t,rfl⟩
 |_=>exact False.elim x
theorem Nf{A:List Addr}:∀{vs:List Value},(∀u∈vs,mJ A u)->Vals (vs.map toV) vs
 | [],_=> .nil
 |u::r,h=> .cons (qI (h u (mem_cons_self ..))) (Nf λx hx=>h x (mem_cons_of_mem _ hx))
def PM(h:Heap)(A:List Addr)(a:Addr):Prop:=∃vs:List Value,vs.length<=sizeLine/\(∀u∈vs,mJ A u)/\
 (h.get? a=some {cls:= .type "list",data:= .seq vs.toArray}\/h.get? a=some {cls:= .type "tuple",data:= .seq vs.toArray})
theorem PM.mono{h:Heap}{A B:List Addr}{a:Addr}(k:∀a∈A,a∈B)(x:PM h A a):PM h B a:=by obtain⟨vs,h1,h2,h3⟩:=x;exact⟨vs,h1,λu hu=>(h2 u hu).mono k,h3⟩
theorem Lx{P:Params}{h:Heap}:∀{vs:List Value} {ds:List WData},WellAll P h vs ds->vs.length=ds.length
 |_,_,.nil=>rfl
 |_,_,.cons _ b=>by show _+1=_+1;rw[Lx b]
theorem cA{P:Params}{ds:List WData}(x:Well P h v (.list ds)):∃(a:Addr) (vs:List Value),v= .ref a/\h.get? a=some {cls:= .type "list",data:= .seq vs.toArray}/\WellAll P h vs ds:=by
 cases x with
 |list ho hall=>exact⟨_,_,rfl,ho,hall⟩
theorem ZE{P:Params}{ds:List WData}(x:Well P h v (.tuple ds)):∃(a:Addr) (vs:List Value),v= .ref a/\h.get? a=some {cls:= .type "tuple",data:= .seq vs.toArray}/\WellAll P h vs ds:=by
 cases x with
 |tuple ho hall=>exact⟨_,_,rfl,ho,hall⟩
theorem cB{P:Params}{d:WData}{ds:List WData}(x:WellAll P h us (d::ds)):∃(v:Value) (vs:List Value),us=v::vs/\Well P h v d/\WellAll P h vs ds:=by
 cases x with
 |cons a b=>exact⟨_,_,rfl,a,b⟩
theorem lB(h:n<=1048576):n<=sizeLine:=Nat.le_trans h (by decide)
section
variable{P:Params}
mutual
theorem qJ:∀(d:WData) (v:Value),Well P h v d->kE d=true->d.weight<=1048576->∃A:List Addr,mJ A v/\∀a∈A,PM h A a
 | .none,_,x,_,_=>by
  cases x;exact⟨[],trivial,λa m=>absurd m (by simp)⟩
 | .bool b,_,x,_,_=>by
  cases x;exact⟨[],trivial,λa m=>absurd m (by simp)⟩
 | .int i,_,x,_,_=>by
  cases x;exact⟨[],trivial,λa m=>absurd m (by simp)⟩
 | .str s,_,x,_,_=>by
  cases x;exact⟨[],trivial,λa m=>absurd m (by simp)⟩
 | .bytes b,_,x,_,_=>by
  cases x;exact⟨[],trivial,λa m=>absurd m (by simp)⟩
 | .list ds,_,x,p,z=>by
  obtain⟨a,vs,rfl,ho,hall⟩:=cA x;have z2:WData.weightAll ds<=1048576:=z;obtain⟨A,h1,h2⟩:=Ut ds _ hall p λd hd=>Nat.le_trans (T4 hd) z2;have k:∀b∈A,b∈a::A:=λb hb=>mem_cons_of_mem _ hb;refine⟨a::A,mem_cons_self ..,λb hb=> ?_⟩;rcases mem_cons.mp hb with e | m
  ·rw[e];exact⟨vs,lB (by rw[Lx hall];exact Nat.le_trans (PySem.W.length_le_weightAllW ds) z2),λu hu=>(h1 u hu).mono k,.inl ho⟩
  ·exact(h2 b m).mono k
 | .tuple ds,_,x,p,z=>by
  obtain⟨a,vs,rfl,ho,hall⟩:=ZE x;have z2:WData.weightAll ds<=1048576:=z;obtain⟨A,h1,h2⟩:=Ut ds _ hall p λd hd=>Nat.le_trans (T4 hd) z2;have k:∀b∈A,b∈a::A:=λb hb=>mem_cons_of_mem _ hb;refine⟨a::A,mem_cons_self ..,λb hb=> ?_⟩;rcases mem_cons.mp hb with e | m
  ·rw[e];exact⟨vs,lB (by rw[Lx hall];exact Nat.le_trans (PySem.W.length_le_weightAllW ds) z2),λu hu=>(h1 u hu).mono k,.inr ho⟩
  ·exact(h2 b m).mono k
 | .float _,_,_,p,_=>Bool.noConfusion (show false=true from p)
 | .dict _,_,_,p,_=>Bool.noConfusion (show false=true from p)
 | .bytearray _,_,_,p,_=>Bool.noConfusion (show false=true from p)
 | .set _,_,_,p,_=>Bool.noConfusion (show false=true from p)
 | .frozenset _,_,_,p,_=>Bool.noConfusion (show false=true from p)
 | .obj _ _,_,_,p,_=>Bool.noConfusion (show false=true from p)
theorem Ut:∀(ds:List WData) (vs:List Value),WellAll P h vs ds->Xm ds=true->(∀d∈ds,d.weight<=1048576)->∃A:List Addr,(∀u∈vs,mJ A u)/\∀a∈A,PM h A a
 | [],_,x,_,_=>by
  cases x;exact⟨[],λu m=>absurd m (by simp),λa m=>absurd m (by simp)⟩
 |d::ds,_,x,p,z=>by
  obtain⟨v,vs,rfl,x1,x2⟩:=cB x;have q:kE d=true/\Xm ds=true:=Bool.and_eq_true_iff.mp p;obtain⟨A,a1,a2⟩:=qJ d v x1 q.1 (z d (mem_cons_self ..));obtain⟨B,b1,b2⟩:=Ut ds vs x2 q.2 λe he=>z e (mem_cons_of_mem _ he);have kA:∀b∈A,b∈A++B:=λb hb=>mem_append.mpr (.inl hb);have kB:∀b∈B,b∈A++B:=λb hb=>mem_append.mpr (.inr hb);refine⟨A++B,λu hu=> ?_,λb hb=> ?_⟩
  ·rcases mem_cons.mp hu with e | m
   ·rw[e];exact a1.mono kA
   ·exact(b1 u m).mono kB
  ·rcases mem_append.mp hb with m | m
   ·exact(a2 b m).mono kA
   ·exact(b2 b m).mono kB
end
end
def rR(o:Obj):Option HO:=match o.data with
 | .seq vs _=>if (o.cls==Value.type "list")=true then some (.bQ o (.lst (vs.toList.map toV))) else some (.bQ o (.tup (vs.toList.map toV)))
 |_=>none
def Pu(K:Frag)(h:Heap)(A:List Addr):Hp:=λb=>if b∈A then(if (K.lookup b).isNone=true then(h.get? b).bind rR else none) else none
def uG(H:Hp):Prop:=∀b,H b=none\/∃o u,H b=some (.bQ o u)
theorem f9(vs:List Value):rR {cls:= .type "list",data:= .seq vs.toArray}=some (.bQ {cls:= .type "list",data:= .seq vs.toArray} (.lst (vs.map toV))):=by show (if (Value.type "list"==Value.type "list")=true then some (HO.bQ {cls:= .type "list",data:= .seq vs.toArray} (.lst (vs.toArray.toList.map toV))) else some (HO.bQ {cls:= .type "list",data:= .seq vs.toArray} (.tup (vs.toArray.toList.map toV))))=_;rw[if_pos (beq_self_eq_true _)]
theorem gA(vs:List Value):rR {cls:= .type "tuple",data:= .seq vs.toArray}=some (.bQ {cls:= .type "tuple",data:= .seq vs.toArray} (.tup (vs.map toV))):=by show (if (Value.type "tuple"==Value.type "list")=true then some (HO.bQ {cls:= .type "tuple",data:= .seq vs.toArray} (.lst (vs.toArray.toList.map toV))) else some (HO.bQ {cls:= .type "tuple",data:= .seq vs.toArray} (.tup (vs.toArray.toList.map toV))))=_;rw[if_neg (by decide)]
section
variable{A:List Addr}
theorem X8(hb:b∈A)(hk:K.lookup b=none)(e:h.get? b=some o):Pu K h A b=rR o:=by unfold Pu;rw[if_pos hb,hk,if_pos (show (none:Option Obj).isNone=true from rfl),e]<;>rfl
theorem sG{u:HO}(q:Pu K h A b=some u):b∈A/\K.lookup b=none:=by
 unfold Pu at q;by_cases hb:b∈A
 ·rw[if_pos hb] at q;cases hk:K.lookup b with
  |none=>exact⟨hb,rfl⟩
  |some o=>rw[hk,if_neg (by simp)] at q;cases q
 ·rw[if_neg hb] at q;cases q
theorem X9(ar:∀a∈A,PM h A a){u:HO}(q:Pu K h A b=some u):K.lookup b=none/\∃vs:List Value,vs.length<=sizeLine/\(∀u∈vs,mJ A u)/\
  ((h.get? b=some {cls:= .type "list",data:= .seq vs.toArray}/\u= .bQ {cls:= .type "list",data:= .seq vs.toArray} (.lst (vs.map toV)))\/
   (h.get? b=some {cls:= .type "tuple",data:= .seq vs.toArray}/\u= .bQ {cls:= .type "tuple",data:= .seq vs.toArray} (.tup (vs.map toV)))):=by
 obtain⟨hb,hk⟩:=sG q;obtain⟨vs,h1,h2,h3⟩:=ar b hb;refine⟨hk,vs,h1,h2,?_⟩;rcases h3 with e | e
 ·rw[X8 hb hk e,f9] at q;exact .inl ⟨e,(Option.some.inj q).symm⟩
 ·rw[X8 hb hk e,gA] at q;exact .inr ⟨e,(Option.some.inj q).symm⟩
theorem mn(ar:∀a∈A,PM h A a):uG (Pu K h A):=λb=>by
 cases q:Pu K h A b with
 |none=>exact .inl rfl
 |some u=>
  obtain⟨_,vs,_,_,⟨_,e⟩ | ⟨_,e⟩⟩:=X9 ar q
  ·exact .inr ⟨_,_,by rw[e]⟩
  ·exact .inr ⟨_,_,by rw[e]⟩
theorem sH(ar:∀a∈A,PM h A a):Ma P w (Pu K h A) h:=λb u q=>by
 obtain⟨_,vs,h1,h2,⟨e,rfl⟩ | ⟨e,rfl⟩⟩:=X9 ar q
 ·exact⟨e,by rw[length_map];exact h1,vs,_,Nf h2,e⟩
 ·exact⟨e,by rw[length_map];exact h1,vs,Nf h2,_,e,rfl,_,rfl⟩
theorem YA{c c':Value}{vs:List Value}(e:(some {cls:=c,data:= .seq vs.toArray}:Option Obj)=some {cls:=c',data:= .seq us.toArray}):c=c'/\vs=us:=by
 have e1:=Option.some.inj e;have e2:c=c':=congrArg Obj.cls e1;have e3:Data.seq vs.toArray=Data.seq us.toArray:=congrArg Obj.data e1;injection e3 with e4
 refine⟨e2,?_⟩;have e5:=congrArg Array.toList e4;simpa using e5
theorem yx(KX:K.In h)(ar:∀a∈A,PM h A a){vs:List Value}(ha:a∈A)(e:h.get? a=some {cls:= .type "list",data:= .seq vs.toArray}):(∀u∈vs,mJ A u)/\A4 K (Pu K h A) a (vs.map toV):=by
 obtain⟨us,h1,h2,h3⟩:=ar a ha;have hu:us=vs:=by
  rcases h3 with q | q
  ·rw[e] at q;exact(YA q).2.symm
  ·rw[e] at q;exact absurd (Value.type.inj (YA q).1) (by decide)
 subst hu;refine⟨h2,?_⟩;cases hk:K.lookup a with
 |none=>exact .inl (.inr ⟨_,by rw[X8 ha hk e,f9]⟩)
 |some o=>have e2:=KX a o hk;rw[e] at e2;obtain rfl:=Option.some.inj e2;exact .inr ⟨_,us.toArray,_,hk,rfl,rfl,rfl,by rw[size_toArray];exact h1,by simpa using Nf h2⟩
theorem yy(KX:K.In h)(ar:∀a∈A,PM h A a){vs:List Value}(ha:a∈A)(e:h.get? a=some {cls:= .type "tuple",data:= .seq vs.toArray}):(∀u∈vs,mJ A u)/\YO K (Pu K h A) a (vs.map toV):=by
 obtain⟨us,h1,h2,h3⟩:=ar a ha;have hu:us=vs:=by
  rcases h3 with q | q
  ·rw[e] at q;exact absurd (Value.type.inj (YA q).1) (by decide)
  ·rw[e] at q;exact(YA q).2.symm
 subst hu;refine⟨h2,?_⟩;cases hk:K.lookup a with
 |none=>exact .inl (.inr ⟨_,by rw[X8 ha hk e,gA]⟩)
 |some o=>have e2:=KX a o hk;rw[e] at e2;obtain rfl:=Option.some.inj e2;exact .inr ⟨_,us.toArray,_,hk,rfl,rfl,by rw[size_toArray];exact h1,by simpa using Nf h2⟩
mutual
theorem vZ{Pm:Params}(KX:K.In h)(ar:∀a∈A,PM h A a):∀(d:WData) (v:Value),Well Pm h v d->kE d=true->mJ A v->Dw K (Pu K h A) (toV v) d
 | .none,_,x,_,_=>by
  cases x;exact .Fn
 | .bool b,_,x,_,_=>by
  cases x;exact .bl b
 | .int i,_,x,_,_=>by
  cases x;exact .int i
 | .str s,_,x,_,_=>by
  cases x;exact .str s
 | .bytes b,_,x,_,_=>by
  cases x;have z:=Dw.iP (K:=K) (H:=Pu K h A) b.toArray;exact z
 | .list ds,_,x,p,hu=>by obtain⟨a,vs,rfl,ho,hall⟩:=cA x;obtain⟨h2,hs⟩:=yx KX ar hu ho;exact .lst hs (dJ KX ar ds _ hall p h2)
 | .tuple ds,_,x,p,hu=>by obtain⟨a,vs,rfl,ho,hall⟩:=ZE x;obtain⟨h2,hs⟩:=yy KX ar hu ho;exact .tup hs (dJ KX ar ds _ hall p h2)
 | .float _,_,_,p,_=>Bool.noConfusion (show false=true from p)
 | .dict _,_,_,p,_=>Bool.noConfusion (show false=true from p)
 | .bytearray _,_,_,p,_=>Bool.noConfusion (show false=true from p)
 | .set _,_,_,p,_=>Bool.noConfusion (show false=true from p)
 | .frozenset _,_,_,p,_=>Bool.noConfusion (show false=true from p)
 | .obj _ _,_,_,p,_=>Bool.noConfusion (show false=true from p)
theorem dJ{Pm:Params}(KX:K.In h)(ar:∀a∈A,PM h A a):∀(ds:List WData) (vs:List Value),WellAll Pm h vs ds->Xm ds=true->(∀u∈vs,mJ A u)->QE K (Pu K h A) (vs.map toV) ds
 | [],_,x,_,_=>by
  cases x;exact .nil
 |d::ds,_,x,p,hu=>by obtain⟨v,vs,rfl,x1,x2⟩:=cB x;have q:kE d=true/\Xm ds=true:=Bool.and_eq_true_iff.mp p;exact .cons (vZ KX ar d v x1 q.1 (hu _ (mem_cons_self ..))) (dJ KX ar ds vs x2 q.2 λu m=>hu u (mem_cons_of_mem _ m))
end
end
theorem Zk{ds:List WData}(h:WData.layableAll ds=true):∀d∈ds,d.weight<=1048576:=λd hd=>(PySem.W.layableW_iff.mp (all_eq_true.mp h d hd)).2.2
theorem ZF:∀(cs:List Codec) (a:Codec.denoteAll cs),(Codec.encAll cs a).length=cs.length
 | [],_=>rfl
 |c::cs,a=>by show (Codec.encAll cs a.2).length+1=cs.length+1;rw[ZF cs a.2]
end L2
end
namespace L2
open PySem PySem.Spec PyProof.Rows
section
variable{M:Model}
def yV(h:Heap)(n:Nat)(e C dx:Addr)(T:Addr):Prop:=
 ∃oe vs oT ts,h.get? e=some oe/\(oe.cls= .ref C/\oe.dict=some dx)/\
  oe.data= .fields vs/\vs[1]?=some (.ref T)/\n<=T/\T≠e/\
  h.get? T=some oT/\oT.data= .fields ts/\ts[3]?=some .none
def rS(AJ:Heap)(l:List Env)(e C dx:Addr)(h h':Heap):Prop:=
 AJ.StaysIn h'/\h'.FunFrames AJ l/\(∃T,yV h' h.objs.size e C dx T)/\h.UpToSlots h'
theorem land{e:Addr}{hd:Value}{nx:Bool}{Q:Unit->Shared->Prop}
  (fr:A.frames=some (env::Ai)) (ff:s.heap.FunFrames AJ (env::Ai)) (fL:env.frame=some L)
  (oeq:s.heap.get? e=some oe) (st:AJ.StaysIn s.heap) (en:AJ.get? e=none) (cl:oe.cls= .ref C) (di:oe.dict=some dx)
  (dq:oe.data= .fields vs) (sz:1<vs.size)
  (k:∀h',rS AJ (env::Ai) e C dx s.heap h'->Q () {s with heap:=h'}):
  wpAny M A (frameOf env>>=λa=>entryPlaceOf L nx>>=λpl=>
   EntryCells.newEntry hd a .none (rawInt L) .none pl>>=λb=>setField (.ref e) 1 b)
   (λ_ s'=>wpAny M A (setFlight (.ref e) none) Q E s') E s:=by
 have eout:e∉(env::Ai).filterMap (·.frame):=λmm=>by obtain⟨_,o,q1,q2⟩:=ff.mem mm;rw[oeq] at q1;cases q1;exact q2 vs dq
 refine wpAny_bind (wpAny_frameOf_fun fr ff fL λh1 so=> ?_);refine wpAny_bind (wpAny_entryPlaceOf λpl ip=> ?_);unfold EntryCells.newEntry newFields;refine wpAny_bind (wpAny_newObj_type ?_ (ip.sizeOk5 _ _ _ _ _));have e1:h1.get? e=some oe:=(so.2.1 e eout).trans oeq;have st1:AJ.StaysIn h1:=λb o q=>(so.2.1 b λmm=>by rw[(ff.mem mm).1] at q;cases q).trans (st b o q);dsimp only;generalize ho:({cls:= .type "traceback",data:= .fields ([hd,.ref L,.none,rawInt L,.none]++(if pl.isEmpty then replicate 6 Value.none else pl)).toArray}:Obj)=ob;have e2:(h1.push ob).get? e=some oe:=get?_push_of_some ob e1;refine wpAny_setField e2 dq sz ?_;have Te:h1.objs.size≠e:=ne_of_gt (lt_size e1);have d3:=Obj.data_mapFields dq (·.setIfInBounds 1 (Value.ref h1.objs.size));have e3:=get?_update_self (Obj.mapFields (·.setIfInBounds 1 (Value.ref h1.objs.size))) e2 (Obj.isFreed_of_fields d3);have obn:ob.isFreed=false:=by subst ho;rfl
 have obd:ob.data= .fields ([hd,.ref L,.none,rawInt L,.none]++(if pl.isEmpty then replicate 6 Value.none else pl)).toArray:=by subst ho;rfl
 have t3:((h1.push ob).update e (Obj.mapFields (·.setIfInBounds 1 (Value.ref h1.objs.size)))).get? h1.objs.size=some ob:=
  (get?_update_other _ _ (Ne.symm Te)).trans (get?_push_size h1 obn)
 unfold setFlight;refine wpAny_bind (wpAny_field e3 d3 (x:= .ref h1.objs.size) (by simp[sz]) ?_);rw[if_pos (show (Value.ref h1.objs.size !=Value.none)=true by simp)];refine wpAny_setField t3 obd (by simp only[size_toArray,length_append,length_cons,length_nil];lia) (k _ ?_);have keep:∀b o,b≠e->h1.get? b=some o->
   (((h1.push ob).update e (Obj.mapFields (·.setIfInBounds 1 (Value.ref h1.objs.size)))).update h1.objs.size
    (Obj.mapFields (·.setIfInBounds 3 ((none:Option Addr).elim Value.none λf=>rawInt f)))).get? b=some o:=λb o be q=>by
  rw[get?_update_other _ _ (ne_of_gt (lt_size q)),get?_update_other _ _ (Ne.symm be)];exact get?_push_of_some _ q
 have nor:∀b o,s.heap.get? b=some o->(∀vs,o.data≠ .fields vs)->b≠e:=λb o q nf z=>by rw[z,oeq] at q;cases q;exact nf vs dq
 have slot:∀b o,s.heap.get? b=some o->(∀vs,o.data≠ .fields vs)->∃sl,(((h1.push ob).update e (Obj.mapFields (·.setIfInBounds 1 (Value.ref h1.objs.size)))).update h1.objs.size
    (Obj.mapFields (·.setIfInBounds 3 ((none:Option Addr).elim Value.none λf=>rawInt f)))).get? b=some {o with slots:=sl}:=λb o q nf=>
  let ⟨sl,q2⟩:=so.2.2 b o q
  ⟨sl,keep b _ (nor b o q nf) q2⟩
 refine⟨λb o q=>keep b o (λz=>by rw[z,en] at q;cases q) (st1 b o q),ff.of_keeps λb o q nf=> ?_,?_,slot⟩
 ·obtain⟨sl,q2⟩:=slot b o q nf;exact⟨_,q2,rfl⟩
 ·have d4:=Obj.data_mapFields obd (·.setIfInBounds 3 ((none:Option Addr).elim Value.none λf=>rawInt f));refine⟨h1.objs.size,_,_,_,_,?_,⟨(Obj.cls_mapFields _ _).trans cl,?_⟩,d3,by simp[sz],le_of_eq so.1.symm,Te,get?_update_self _ t3 (Obj.isFreed_of_fields d4),d4,?_⟩
  ·rw[get?_update_other _ _ Te];exact e3
  ·obtain⟨c,d,dt,sl⟩:=oe;cases dt<;>first | exact di | rfl
  ·rcases ip with rfl | ⟨_,_,_,_,_,_,_,rfl⟩<;>simp
theorem g0{e:Addr}{Q:Unit->Shared->Prop}
  (fr:A.frames=some (env::Ai)) (ff:s.heap.FunFrames AJ (env::Ai)) (fL:env.frame=some L)
  (oeq:s.heap.get? e=some oe) (st:AJ.StaysIn s.heap) (en:AJ.get? e=none) (cl:oe.cls= .ref C) (di:oe.dict=some dx)
  (dq:oe.data= .fields vs) (h1:vs[1]?=some .none)
  (k:∀h',rS AJ (env::Ai) e C dx s.heap h'->Q () {s with heap:=h'}):wpAny M A (leaving env (.ref e)) Q E s:=by
 unfold leaving noteFrame;simp only[fL];refine wpAny_bind (wpAny_bind (wpAny_field oeq dq h1 ?_));rw[if_neg (by decide)];exact land fr ff fL oeq st en cl di dq (Array.getElem?_eq_some_iff.mp h1).1 k
theorem cC{e:Addr}{Q:Unit->Shared->Prop}
  (fr:A.frames=some (env::Ai)) (ff:s.heap.FunFrames AJ (env::Ai)) (fL:env.frame=some L)
  (st:AJ.StaysIn s.heap) (en:AJ.get? e=none) (nT:AJ.get? T=none) (fy:yV s.heap n e C dx T)
  (k:∀h',rS AJ (env::Ai) e C dx s.heap h'->Q () {s with heap:=h'}):wpAny M A (noteFrame (.ref e) env) (λ_ s'=>wpAny M A (setFlight (.ref e) none) Q E s') E s:=by
 obtain⟨oe,vs,oT,ts,oeq,⟨cl,di⟩,dq,h1,_,Te,hT,dT,h3⟩:=fy;unfold noteFrame;simp only[fL];refine wpAny_bind (wpAny_field oeq dq h1 ?_);rw[if_pos (show (Value.ref T !=Value.none)=true by simp)];refine wpAny_bind (wpAny_field hT dT h3 ?_);rw[if_neg (show ¬((Value.none==rawInt L)=true) by simp[rawInt])];refine wpAny_bind (wpAny_setField hT dT (Array.getElem?_eq_some_iff.mp h3).1 ?_);have oth:∀b,b≠T->(s.heap.update T (Obj.mapFields (·.setIfInBounds 3 Value.none))).get? b=s.heap.get? b:=λb q=>get?_update_other _ _ (Ne.symm q);have nor:∀b o,s.heap.get? b=some o->(∀vs,o.data≠ .fields vs)->b≠T:=λb o q nf z=>by rw[z,hT] at q;cases q;exact nf ts dT
 refine land fr (ff.of_keeps λb o q nf=>⟨o,(oth b (nor b o q nf)).trans q,rfl⟩) fL ((oth e (Ne.symm Te)).trans oeq)
  (λb o q=>(oth b λz=>by rw[z,nT] at q;cases q).trans (st b o q)) en cl di dq (Array.getElem?_eq_some_iff.mp h1).1
  λh' ⟨x1,x2,⟨T',x3⟩,x4⟩=>k h' ⟨x1,x2,⟨T',by rw[Heap.size_after_update] at x3;exact x3⟩,λb o q nf=>x4 b o ((oth b (nor b o q nf)).trans q) nf⟩
theorem jR{e:Addr}{Q:Unit->Shared->Prop}
  (fr:A.frames=some (env::Ai)) (ff:s.heap.FunFrames AJ (env::Ai)) (fL:env.frame=some L)
  (st:AJ.StaysIn s.heap) (en:AJ.get? e=none) (nT:AJ.get? T=none) (fy:yV s.heap n e C dx T)
  (k:∀h',rS AJ (env::Ai) e C dx s.heap h'->Q () {s with heap:=h'}):wpAny M A (leaving env (.ref e)) Q E s:=
 wpAny_bind (cC fr ff fL st en nT fy k)
end
def yz(n:Nat)(h:Heap)(H:Hp)(e C dx:Addr):Prop:=n<=e/\H e=none/\∃T,H T=none/\yV h n e C dx T
def Wu(P:Program)(w:World)(C:Addr):fJ:=λAi H s E e s'=>
 ∃ea dx H',e= .ref ea/\s'.os=s.os/\AllBare s'.gens/\Un (aH Ai) [] H H' s.heap s'.heap/\Ma P w H' s'.heap/\
  yz s.heap.objs.size s'.heap H' ea C dx/\E (.ref C) (some dx) H'
section
def mQ(X:Cx)(AF:List (Addr×Obj))(H:Hp)(b:Addr):Prop:=
 H b=none/\X.Kc.heap.objs.size<=b/\b≠X.env.locals/\(∀x c,X.env.cells.lookup x=some c->c≠b)/\∀p∈X.pn++AF,p.1≠b
theorem Ng(I:Inv X AF σ H s)(hb:s.heap.objs.size<=b)(hn:H' b=none):mQ X AF H' b:=by
 refine⟨hn,Nat.le_trans I.sz hb,λz=> ?_,λx c e z=> ?_,λp hp z=> ?_⟩
 ·have:=I.lt;rw[<-z] at this;exact absurd this (Nat.not_lt.mpr hb)
 ·obtain⟨v,q⟩:=I.cell x c e;obtain⟨o,q1,_⟩:=q;have:=lt_size q1;rw[z] at this;exact absurd this (Nat.not_lt.mpr hb)
 ·have:=lt_size (I.pin p hp).1;rw[z] at this;exact absurd this (Nat.not_lt.mpr hb)
theorem Uu(I:Inv X AF σ H s)(hch:∀b∈ch,mQ X AF H b)
  (st:(hideAll s.heap (aH X.stack++ch)).StaysIn h') (sl:s.heap.UpToSlots h'):Inv X AF σ H {s with heap:=h'}:=by
 have keepT:∀b o,s.heap.get? b=some o->b∉aH X.stack->b∉ch->h'.get? b=some o:=λb o q n1 n2=>st b o (hideAll_get _ q λz=>(mem_append.mp z).elim n1 n2)
 have slotT:∀b o,s.heap.get? b=some o->b∈aH X.stack->∃sl,h'.get? b=some {o with slots:=sl}:=λb o q m=>by obtain⟨_,o2,q2,nf⟩:=I.stack.mem m;rw[q] at q2;cases q2;exact sl b o q nf
 have u:Un (aH X.stack) ch H H s.heap h':=
  ⟨λb o q _ n1 n2=>keepT b o q n1 n2,λb o q _ m _=>slotT b o q m,λ_ _ _ n _=>n,
   λb o q n2=>by
   by_cases m:b∈aH X.stack
   ·obtain⟨sl,z⟩:=slotT b o q m;exact⟨_,z⟩
   ·exact⟨o,keepT b o q m n2⟩,
   λ_ _ q=>q,λ_ _ _ q=>q,λb ps q=>⟨#[],by rw[q];simp⟩⟩
 have nu:∀b ob,H b=some ob->b∉aH X.stack/\b∉ch:=λb ob q=>⟨λm=>(by rw[I.dX b m] at q;cases q),λm=>(by rw[(hch b m).1] at q;cases q)⟩
 have BL:Ma X.prog X.w H h':=λa o q=>(I.BL a o q).SU (λb u hb g=>by
  rcases hb with rfl | z
  ·exact keepT _ _ g (nu _ _ q).1 (nu _ _ q).2
  ·exact keepT _ _ g (nu _ _ z).1 (nu _ _ z).2) (λ_ q=>q) (λ_ _ q=>q)
 exact I.kG (s':={s with heap:=h'}) rfl u BL I.bare λb m=>⟨.inr (hch b m).2.1,(hch b m).2.2⟩
end
section
variable
 {Kc:Shared} {YN:Hp} {E0 E:XK}
theorem Ag(hE:∀d H',E (.ref C) (some d) H'->E0 (.ref C) (some d) H'):
  IV (Wu P w C) (KJ (Wu P w C) P w K mg AJ N qual scope f cd A Ai Kc YN E0) E:=by
 intro AF σ H s e s' I hc;obtain⟨ea,dx,H',rfl,os,bare,un,BL,⟨na,fa,T,fT,fy⟩,q⟩:=hc;have I1:=I.kG (s':=s') os un BL bare (by intro b hb;cases hb);have nT:s.heap.objs.size<=T:=let ⟨_,_,_,_,_,_,_,_,z,_⟩:=fy;z;have hch:∀b∈ [ea,T],mQ (KJ (Wu P w C) P w K mg AJ N qual scope f cd A Ai Kc YN E0) AF H' b:=λb m=>by
  rcases mem_cons.mp m with rfl | m
  ·exact Ng I na fa
  ·rw[mem_singleton.mp m];exact Ng I nT fT
 refine jR (AJ:=hideAll s'.heap (aH (KJ (Wu P w C) P w K mg AJ N qual scope f cd A Ai Kc YN E0).stack++ [ea,T])) I1.ok.frames
  (funFrames_hide I1.stack λenv m b z=>mem_append.mpr (.inl (mem_filterMap.mpr ⟨env,m,z⟩))) rfl
  (λb o q=>of_hideAll _ q) (hideAll_none _ (by simp)) (hideAll_none _ (by simp)) fy λh' g=> ?_
 obtain⟨g1,g2,⟨T',g3⟩,g4⟩:=g;have I2:=Uu I1 hch g1 g4;obtain⟨oe,vs,oT,ts,y1,y2,y3,y4,y5,y6⟩:=g3;exact⟨ea,dx,H',rfl,I2.os,I2.bare,I2.AJ,I2.BL,⟨Nat.le_trans I.sz na,fa,T',I1.BL.fresh y5,oe,vs,oT,ts,y1,y2,y3,y4,Nat.le_trans I1.sz y5,y6⟩,hE _ _ q⟩
theorem jS{ea:Addr}
  (I:Inv (KJ (Wu P w C) P w K mg AJ N qual scope f cd A Ai Kc YN E0) AF σ H s)
  (r:mQ (KJ (Wu P w C) P w K mg AJ N qual scope f cd A Ai Kc YN E0) AF H ea) (oeq:s.heap.get? ea=some oe) (cl:oe.cls= .ref C) (di:oe.dict=some dx)
  (dq:oe.data= .fields vs) (h1:vs[1]?=some .none) (q:E0 (.ref C) (some dx) H):
  (KJ (Wu P w C) P w K mg AJ N qual scope f cd A Ai Kc YN E0).xe (.ref ea) s:=by
 refine g0 (AJ:=hideAll s.heap (aH (KJ (Wu P w C) P w K mg AJ N qual scope f cd A Ai Kc YN E0).stack++ [ea])) I.ok.frames
  (funFrames_hide I.stack λenv m b z=>mem_append.mpr (.inl (mem_filterMap.mpr ⟨env,m,z⟩))) rfl oeq
  (λb o q=>of_hideAll _ q) (hideAll_none _ (by simp)) cl di dq h1 λh' g=> ?_
 obtain⟨g1,g2,⟨T',g3⟩,g4⟩:=g;have I2:=Uu I (ch:=[ea]) (λb m=>by rw[mem_singleton.mp m];exact r) g1 g4;obtain⟨oe',vs',oT,ts,y1,y2,y3,y4,y5,y6⟩:=g3;exact⟨ea,dx,H,rfl,I2.os,I2.bare,I2.AJ,I2.BL,⟨r.2.1,r.1,T',I.BL.fresh y5,oe',vs',oT,ts,y1,y2,y3,y4,Nat.le_trans I.sz y5,y6⟩,q⟩
end
def tW:List Value:=[.type "Exception",.type "BaseException",.type "object"]
def Ls(K:Frag)(C fI:Addr):Bool:=match K.lookup C with
 |some ⟨.type "type",_,.cls cd,sl⟩=>(match cd.mro,sl.toList with
  | .ref C'::bm,[_,_,_,_,some (.builtin n),_]=>C'==C && n== "Exception.__new__" && !cd.hasDel && cd.hasDict && bm==tW && nsOkIn K cd.ns
    && nsIn K cd.ns "__init__"==some (some (.ref fI)) && (["__setattr__","__getattribute__","__getattr__","code","place"]:List Str).all λn=>nsIn K cd.ns n==some none
  |_,_=>false)
 |_=>false
def Km(h:Heap)(C fI:Addr):Prop:=
 ∃nm q N bs sn sub ab col dd k0 k1 k2 k3 k5,∃mN:Str->Option Value,h.get? C=some (excClassObj nm q C N bs tW true sn sub ab col dd k0 k1 k2 k3 k5 "Exception.__new__")/\h.Ns N mN/\
  mN "__init__"=some (.ref fI)/\(mN "__setattr__"=none/\mN "__getattribute__"=none/\mN "__getattr__"=none)/\mN "code"=none/\mN "place"=none
theorem jT{N:Addr}{n:Str}(X:K.In h)(G:h.Ns N mg)(e:nsIn K N n=some (some v)):mg n=some v:=by
 obtain⟨o,es,ep,ho,hd,_,hf⟩:=G;unfold nsIn at e;split at e
 ·rename_i q;have z:=X _ _ q;rw[ho] at z;cases z;cases hd;split at e
  ·rename_i he;cases e;rw[<-hf];unfold nsFind findBy;rw[<-Array.find?_toList,he];rfl
  ·rename_i he
   first
    |(split at e<;>cases e)
    |cases e
 ·cases e
theorem QR(X:K.In h)(q:Ls K C fI=true):Km h C fI:=by
 unfold Ls at q;split at q
 ·rename_i dd cd sl ho;split at q
  ·rename_i C' bm k0 k1 k2 k3 n k5 hm hs;simp only[Bool.and_eq_true,beq_iff_eq,Bool.not_eq_true',all_cons,List.all_nil,and_true] at q;obtain⟨⟨⟨⟨⟨⟨⟨e1,e2⟩,OP⟩,hdi⟩,hbm⟩,BL⟩,hin⟩,n1,n2,n3,n4,n5⟩:=q;subst e1 e2;obtain⟨nm,bs,mro,ns,qn,hd,sn,sub,ab,col,del⟩:=cd;dsimp only at hm OP hdi BL hin n1 n2 n3 n4 n5;subst hm OP hdi hbm;have hsl:sl=#[k0,k1,k2,k3,some (.builtin "Exception.__new__"),k5]:=by
    obtain⟨l⟩:=sl;simp only at hs;rw[hs]
   subst hsl;have G:=Heap.Ns.of_isNs (PySem.W.isNs_of_in X BL);exact⟨nm,qn,ns,bs,sn,sub,ab,col,dd,k0,k1,k2,k3,k5,_,X _ _ ho,G,jT X G hin,
    ⟨ns_none_of X G n1,ns_none_of X G n2,ns_none_of X G n3⟩,ns_none_of X G n4,ns_none_of X G n5⟩
  ·cases q
 ·cases q
end L2
namespace L2
open PySem PySem.Spec PyProof.Rows
open PySem.Builtin PySem.Builtin.ObjectAttr
section
variable{g:Array GenState}{d:Drawn}{t:Nat}{os:OsState}{x:Addr}
theorem jU{Q:Fin->Shared->Prop}{tk:Tok}(F:Km h C fI)(nn:name= "code"\/name= "place")(hx:h.get? x=some o)(hc:o.cls= .ref C)(hdn:o.dict=none)(hdt:o.data= .fields vs)
  (hq:∀h' tk',h'.get? x=some {o with dict:=some h.objs.size}->h'.Ns1 h.objs.size (λy=>if y=name then some v else none)->
   (∀b ob,b≠x->h.get? b=some ob->h'.get? b=some ob)->Q (.done (.ret .none)) ⟨h',g,d,tk',os⟩):
  wpAny (model prog w) A (Builtin.«object.__setattr__» ⟨[.ref x,.str name tk,v],[]⟩) Q E ⟨h,g,d,t,os⟩:=by
 obtain⟨nm,q,N,bs,sn,sub,ab,col,dd,k0,k1,k2,k3,k5,mN,hC,hn,hi,⟨hsa,hga,hgh⟩,hco,hpl⟩:=F;have SF:=PySem.F.store_Exception;have hna:mN name=none:=by rcases nn with rfl | rfl<;>assumption
 have hB:typeLookup (.type "Exception") name=pure none:=by rcases nn with rfl | rfl<;>(rw[typeLookup_type,builtinLookup_eq_fast];kernel_rfl)
 have hpass:=SF.passes (.ref x);unfold Builtin.«object.__setattr__»
 repeat (first | rw[refuse_eq] | (rw[refuseLoop_ref,hpass]) | (with_reducible refine wpAny_loadPart_at hx ?_;rw[hc]) | with_reducible refine wpAny_mroOf_exc hC ?_ | (with_reducible refine wpAny_typeLookup_exc hC hn SF.mro hB ?_;rw[hna]) | wp_step)
 rw[hdn,if_neg (by simp[typeHasDict])];split
 ·rename_i z;cases z
 rw[hdt];dsimp only;have x1:(h.push {cls:= .type "dict",data:= .dict #[]}).get? x=some o:=get?_push_of_some _ hx;have xs:x≠h.objs.size:=ne_of_lt (lt_size hx);refine wpAny_bind (wpAny_alloc' ?_);refine wpAny_bind (wpAny_update' x1 ?_);refine wpAny_pure ?_;generalize hh:((h.push {cls:= .type "dict",data:= .dict #[]}).update x λo=>{cls:=o.cls,dict:=some h.objs.size,data:=o.data,slots:=o.slots})=hu;have gd:hu.get? h.objs.size=some {cls:= .type "dict",data:= .dict #[]}:=by subst hh;exact(Heap.get?_update_ne _ _ _ _ xs.symm).trans (Heap.get?_push_at rfl rfl)
 have nd:hu.Ns h.objs.size (λ_=>none):=⟨_,#[],_,gd,rfl,λe he=>absurd he (by simp),λ_=>rfl⟩;have kp:∀b ob,b≠x->h.get? b=some ob->hu.get? b=some ob:=λb ob bx e=>by subst hh;exact(Heap.get?_update_ne _ _ _ _ bx).trans (get?_push_of_some _ e)
 have gx:hu.get? x=some {o with dict:=some h.objs.size}:=by subst hh;refine get?_update_self _ x1 ?_;obtain⟨oc,od,odt,osl⟩:=o;cases hdt;rfl
 show wpAny _ _ (storeInDict h.objs.size (.str name tk) name v) _ _ _;unfold storeInDict newKeyGuard;refine wpAny_bind (wpAny_pure (wpAny_bind (wpAny_nsSet1 (Heap.Ns1.of_empty nd) λh' hn' hs=> ?_)));obtain⟨oD,esD,epD,hoD,hdD,hcD⟩:=hn'.count (Within.cons name v Within.nil);refine wpAny_bind (wpAny_lookBehind hoD (by rw[hdD];exact pastItsLine_dict (Nat.le_trans hcD (by rw[length_cons,length_nil,sizeLine_eq];lia))) ?_)
 repeat (any_goals (first | assumption | wp_step))
 exact hq h' _ ((hs.2 x xs).trans gx) hn' λb ob bx e=>(hs.2 b (ne_of_lt (lt_size e))).trans (kp b ob bx e)
theorem jV{R:Result->Shared->Prop}{tk:Tok}{sa owner:String}(SF:StoreFacts "Exception" tW sa owner)(F:Km h C fI)(nn:name= "code"\/name= "place")(hx:h.get? x=some o)(hc:o.cls= .ref C)(hdn:o.dict=none)(hdt:o.data= .fields vs)
  (hq:∀h' tk',h'.get? x=some {o with dict:=some h.objs.size}->h'.Ns1 h.objs.size (λy=>if y=name then some v else none)->
   (∀b ob,b≠x->h.get? b=some ob->h'.get? b=some ob)->R (.ok (.ret .none)) ⟨h',g,d,tk',os⟩):
  codeAny (model prog w) A (.call (.builtin sa) ⟨[.ref x,.str name tk,v],[]⟩) R ⟨h,g,d,t,os⟩:=by
 have F':=F;obtain⟨nm,q,N,bs,sn,sub,ab,col,dd,k0,k1,k2,k3,k5,mN,hC,hn,hi,⟨hsa,hga,hgh⟩,hco,hpl⟩:=F;exact codeAny_call_builtin SF.slot.plain SF.entry (wpAny_check_sa SF hC hx hc (jU F' nn hx hc hdn hdt hq))
theorem jW{Q:Unit->Shared->Prop}{sa owner:String}(SF:StoreFacts "Exception" tW sa owner)(F:Km h C fI)(nn:name= "code"\/name= "place")(hx:h.get? x=some o)(hc:o.cls= .ref C)(hdn:o.dict=none)(hdt:o.data= .fields vs)
  (hq:∀h' tk',h'.get? x=some {o with dict:=some h.objs.size}->h'.Ns1 h.objs.size (λy=>if y=name then some v else none)->
   (∀b ob,b≠x->h.get? b=some ob->h'.get? b=some ob)->Q () ⟨h',g,d,tk',os⟩):
  wpAny (model prog w) A (setAttr (.ref x) name v) Q E ⟨h,g,d,t,os⟩:=by
 have F':=F;obtain⟨nm,q,N,bs,sn,sub,ab,col,dd,k0,k1,k2,k3,k5,mN,hC,hn,hi,⟨hsa,hga,hgh⟩,hco,hpl⟩:=F;have f3:=SF.slot.bind (.ref x);unfold setAttr callSpecial? specialOf
 repeat (any_goals (first | assumption | (with_reducible refine wpAny_loadPart_at hx ?_;rw[hc]) | (with_reducible refine wpAny_typeLookup_exc hC hn SF.mro SF.slot.lookup ?_;rw[hsa]) | wp_step))
 refine jV SF F' nn hx hc hdn hdt (λh' tk' y1 y2 y3=> ?_);exact wpAny_pure (wpAny_pure (hq h' tk' y1 y2 y3))
theorem mq{Q:Unit->Shared->Prop}(F:Km h C fI)(nn:name= "code"\/name= "place")(hx:h.get? x=some o)(hc:o.cls= .ref C)(hdn:o.dict=none)(hdt:o.data= .fields vs)
  (hq:∀h' tk',h'.get? x=some {o with dict:=some h.objs.size}->h'.Ns1 h.objs.size (λy=>if y=name then some v else none)->
   (∀b ob,b≠x->h.get? b=some ob->h'.get? b=some ob)->Q () ⟨h',g,d,tk',os⟩):
  wpAny (model prog w) A (setAttr (.ref x) name v) Q E ⟨h,g,d,t,os⟩:=jW PySem.F.store_Exception F nn hx hc hdn hdt hq
theorem jX{Q:Unit->Shared->Prop}{ns:List Str}(F:Km h C fI)(nn:name= "code"\/name= "place")(hx:h.get? x=some o)(hc:o.cls= .ref C)(hdx:o.dict=some dx)(hdt:o.data= .fields vs)
  (hne:dx≠x) (hns:h.Ns1 dx mA) (hw:Within mA ns) (hsz:ns.length<=sizeLine)
  (hq:∀h' tk',h'.get? x=some o->h'.Ns1 dx (λy=>if y=name then some v else mA y)->
   (∀b ob,b≠x->b≠dx->h.get? b=some ob->h'.get? b=some ob)->Q () ⟨h',g,d,tk',os⟩):
  wpAny (model prog w) A (setAttr (.ref x) name v) Q E ⟨h,g,d,t,os⟩:=by
 obtain⟨nm,q,N,bs,sn,sub,ab,col,dd,k0,k1,k2,k3,k5,mN,hC,hn,hi,⟨hsa,hga,hgh⟩,hco,hpl⟩:=F;have hna:mN name=none:=by rcases nn with rfl | rfl<;>assumption
 have hB:typeLookup (.type "Exception") name=pure none:=by rcases nn with rfl | rfl<;>(rw[typeLookup_type,builtinLookup_eq_fast];kernel_rfl)
 have hxC:x≠C:=λz=>by rw[z,hC] at hx;cases hx;cases hdt
 refine store_attr (mA:=mA) (ns:=ns) PySem.F.store_Exception hC hn hsa hna hB hxC ⟨o,hx,hc,λc z=>(by rw[hdt] at z;cases z),.inr ⟨dx,hdx,hne,hns⟩⟩ (λh' tk' I kp same=> ?_) hw hsz;obtain⟨o1,y1,y2,y3,y4,y5⟩:=same o hx;have ed:=y5 dx hdx;have eo:o1=o:=by obtain⟨a1,a2,a3,a4⟩:=o1;obtain⟨b1,b2,b3,b4⟩:=o;dsimp only at y2 y3 y4 ed hdx;subst y2 y3 y4;rw[ed,hdx]
 rw[eo] at y1;obtain⟨o2,z1,z2,z3,z4⟩:=I;rw[y1] at z1;cases z1;rcases z4 with⟨z4,_⟩ | ⟨d2,z4,z5,z6⟩
 ·rw[hdx] at z4;cases z4
 ·rw[hdx] at z4;cases z4;exact hq h' tk' y1 z6 λb ob b1 b2 e=>kp b ob b1 (λo0 dx0 e0 d0=>by rw[hx] at e0;cases e0;rw[hdx] at d0;cases d0;exact b2) e
end
section
variable{g:Array GenState}{d:Drawn}{t:Nat}{os:OsState}{x:Addr}
theorem cD{Q:Fin->Shared->Prop}{tk:Tok}(F:Km h C fI)(nn:name= "code"\/name= "place")(hx:h.get? x=some o)(hc:o.cls= .ref C)(hdx:o.dict=some dx)(hdt:o.data= .fields vs)
  (hns:h.Ns1 dx mA) (hv:mA name=some v) (hq:Q (.done (.ret v)) ⟨h,g,d,t,os⟩):
  wpAny (model prog w) A (Builtin.«object.__getattribute__» ⟨[.ref x,.str name tk],[]⟩) Q E ⟨h,g,d,t,os⟩:=by
 obtain⟨nm,q,N,bs,sn,sub,ab,col,dd,k0,k1,k2,k3,k5,mN,hC,hn,hi,⟨hsa,hga,hgh⟩,hco,hpl⟩:=F;have hna:mN name=none:=by rcases nn with rfl | rfl<;>assumption
 have hB:typeLookup (.type "Exception") name=pure none:=by rcases nn with rfl | rfl<;>(rw[typeLookup_type,builtinLookup_eq_fast];kernel_rfl)
 have hm:=PySem.F.store_Exception.mro;unfold Builtin.«object.__getattribute__»
 repeat (first | (with_reducible refine wpAny_loadPart_at hx ?_;rw[hc]) | (with_reducible refine wpAny_typeLookup_exc hC hn hm hB ?_;rw[hna]) | wp_step)
 rw[hdt];dsimp only;unfold instanceDict
 repeat (first | (with_reducible refine wpAny_loadPart_at hx ?_;rw[hc]) | with_reducible refine wpAny_loadPart_at hC ?_ | wp_step)
 rw[hdx]
 repeat (first | (with_reducible refine wpAny_nsGet hns.ns ?_;rw[hv]) | wp_step)
 exact hq
structure dh(gi:String):Prop where
 ga:Slot "Exception" "__getattribute__" gi
 entry:entryFor table gi=some Builtin.«object.__getattribute__»
 kind:builtinKind gi=some .slot
 split:splitId gi=some ("BaseException","__getattribute__")
 args:∀a b:Value,argsOk gi ⟨[a,b],[]⟩
 no:(Value.builtin gi==Value.builtin "object.__getattribute__")=false
theorem qK:dh "BaseException.__getattribute__":=
 ⟨PySem.F.attr_Exception.ga,PySem.F.entry_bexc_ga,by decide+kernel,by decide+kernel,PySem.F.args_bexc_ga,by decide+kernel⟩
theorem mr{R:Result->Shared->Prop}{gi:String}(G:dh gi){tk:Tok}(F:Km h C fI)(nn:name= "code"\/name= "place")(hx:h.get? x=some o)(hc:o.cls= .ref C)(hdx:o.dict=some dx)(hdt:o.data= .fields vs)
  (hns:h.Ns1 dx mA) (hv:mA name=some v) (hq:R (.ok (.ret v)) ⟨h,g,d,t,os⟩):
  codeAny (model prog w) A (.call (.builtin gi) ⟨[.ref x,.str name tk],[]⟩) R ⟨h,g,d,t,os⟩:=by
 have F':=F;obtain⟨nm,q,N,bs,sn,sub,ab,col,dd,k0,k1,k2,k3,k5,mN,hC,hn,hi,⟨hsa,hga,hgh⟩,hco,hpl⟩:=F;have hb:(Value.ref C::tW).contains (.type "BaseException")=true:=by rw[contains_cons];simp[tW]
 have ha:=G.args (.ref x) (.str name tk);refine codeAny_call_builtin G.ga.plain G.entry ?_;simp only[checkBuiltinCall,G.kind,G.split];refine wpAny_bind ?_;unfold isInstance
 repeat (first | (with_reducible refine wpAny_loadPart_at hx ?_;rw[hc]) | (with_reducible refine wpAny_isSubtype_exc hC ?_;rw[hb]) | wp_step)
 cases hsig:Manifest.signature? gi with
 |none=>exact wpAny_pure (cD F' nn hx hc hdx hdt hns hv hq)
 |some sig=>simp only[argsOk,hsig] at ha;show wpAny _ _ (Bind.checkArgs gi sig ⟨[.ref x,.str name tk],[]⟩) _ _ _;rw[show Bind.checkArgs gi sig ⟨[.ref x,.str name tk],[]⟩=pure () from ha];exact wpAny_pure (cD F' nn hx hc hdx hdt hns hv hq)
theorem mv{gi:String}(G:dh gi){expr:Bool}(F:Km h C fI)(nn:name= "code"\/name= "place")(hx:h.get? x=some o)(hc:o.cls= .ref C)(hdx:o.dict=some dx)(hdt:o.data= .fields vs)
  (hns:h.Ns1 dx mA) (hv:mA name=some v) (hh:handedOut v=pure v) (hq:Q v ⟨h,g,d,t+1,os⟩):
  wpAny (model prog w) A (getAttr (.ref x) name expr) Q E ⟨h,g,d,t,os⟩:=by
 have F':=F;obtain⟨nm,q,N,bs,sn,sub,ab,col,dd,k0,k1,k2,k3,k5,mN,hC,hn,hi,⟨hsa,hga,hgh⟩,hco,hpl⟩:=F;have f3:=G.ga.bind (.ref x);have hm:=PySem.F.store_Exception.mro;have hgn:typeLookup (.type "Exception") "__getattr__"=pure none:=by rw[typeLookup_type,builtinLookup_eq_fast];kernel_rfl
 have hx0:(expr && onTheHeap (Value.builtin gi))=false:=by cases expr<;>rfl
 have hx1:(onTheHeap (Value.ref C) && Value.builtin gi==Value.builtin "object.__getattribute__")=false:=by rw[G.no];rfl
 unfold getAttr getAttrBy
 repeat (any_goals (first | assumption | (with_reducible refine wpAny_loadPart_at hx ?_;rw[hc]) | (with_reducible refine wpAny_typeLookup_exc hC hn hm G.ga.lookup ?_;rw[hga]) | (with_reducible refine wpAny_typeLookup_exc hC hn hm hgn ?_;rw[hgh]) | wp_step))
 refine mr G F' nn hx hc hdx hdt hns hv ?_;show wpAny _ _ (handedOut v) _ _ _;rw[hh];exact wpAny_pure hq
theorem qL{expr:Bool}(F:Km h C fI)(nn:name= "code"\/name= "place")(hx:h.get? x=some o)(hc:o.cls= .ref C)(hdx:o.dict=some dx)(hdt:o.data= .fields vs)
  (hns:h.Ns1 dx mA) (hv:mA name=some v) (hh:handedOut v=pure v) (hq:Q v ⟨h,g,d,t+1,os⟩):
  wpAny (model prog w) A (getAttr (.ref x) name expr) Q E ⟨h,g,d,t,os⟩:=mv qK F nn hx hc hdx hdt hns hv hh hq
end
end L2
namespace L2
open PySem PySem.Spec PyProof.Rows
def XO(a C:Addr)(d:Option Addr):HO:= .ext λh=>∃t,h.get? a=some ⟨.ref C,d,.fields #[.ref t,.none,.none,.none,.bool false,.none],#[]⟩
def XD(a:Addr)(fs:List (Str×V)):HO:= .ext λh=>∃mA,h.Ns1 a mA/\(∀f,KI (fs.lookup f) (mA f))/\Within mA (fs.map (·.1))/\fs.length<=10
theorem uH{t:Addr}{d:Option Addr}(e:h.get? a=some ⟨.ref C,d,.fields #[.ref t,.none,.none,.none,.bool false,.none],#[]⟩):CT P w H h a (XO a C d):=
 ⟨⟨t,e⟩,⟨_,e⟩,λ_ _ ⟨t,q⟩ k=>⟨t,k _ q⟩⟩
theorem uI{fs:List (Str×V)}(n:h.Ns1 a mA)(r:∀f,KI (fs.lookup f) (mA f))(wi:Within mA (fs.map (·.1)))(l:fs.length<=10):CT P w H h a (XD a fs):=
 ⟨⟨mA,n,r,wi,l⟩,let ⟨o,_,_,e,_⟩:=n;⟨o,e⟩,λ_ _ ⟨mA,n,r⟩ k=>⟨mA,n.at k,r⟩⟩
theorem oP{d:Option Addr}(ok:Ma P w H h)(e:H a=some (XO a C d)):∃t,h.get? a=some ⟨.ref C,d,.fields #[.ref t,.none,.none,.none,.bool false,.none],#[]⟩:=(ok a _ e).1
theorem uJ{fs:List (Str×V)}(ok:Ma P w H h)(e:H a=some (XD a fs)):∃mA,h.Ns1 a mA/\(∀f,KI (fs.lookup f) (mA f))/\Within mA (fs.map (·.1))/\fs.length<=10:=(ok a _ e).1
section
theorem Inv.va{x:Addr}{ox od:HO}(I:Inv X AF σ H s)(mu:wY (H x))(hd:s.heap.objs.size<=d)(k:∀b u,b≠x->s.heap.get? b=some u->h'.get? b=some u)(heo:∃u,h'.get? x=some u)
  (n1:CT X.prog X.w (upd (upd H d od) x ox) h' d od) (n2:CT X.prog X.w (upd (upd H d od) x ox) h' x ox) (hnt:∀ys,od≠ .tup ys):Inv X AF σ (upd (upd H d od) x ox) {s with heap:=h',toks:=t'}:=by
 have fd:H d=none:=I.BL.fresh hd;have nx:∀b,H b=none->b≠x:=λb n z=>by rw[<-z,n] at mu;exact mu
 have xd:x≠d:=λz=>nx d fd z.symm;have oth:∀b,b≠x->b≠d->upd (upd H d od) x ox b=H b:=λb z1 z2=>by rw[AM z1,AM z2]
 have nown:∀c y,H c=some (.own y)->c≠x:=λc y r z=>by subst z;rw[r] at mu;exact mu
 have ntup:∀c xs,H c=some (.tup xs)->c≠x:=λc xs r z=>by subst z;rw[r] at mu;exact mu
 have nfrz:∀c o u,H c=some (.bQ o u)->c≠x:=λc o u r z=>by subst z;rw[r] at mu;exact mu
 have ntbl:∀c ps,H c=some (.YM ps)->c≠x:=λc ps r z=>by subst z;rw[r] at mu;exact mu
 have ned:∀c u,H c=some u->c≠d:=λc u r z=>by rw[z,fd] at r;cases r
 refine I.un (h':=h') (t':=t') ⟨λb o q n _ _=>k b o (nx b n) q,λb o q n _ _=>⟨o.slots,k b o (nx b n) q⟩,λb o q n _=> ?_,λb o q _=> ?_,
  λb ys q=> ?_,λb o u q=> ?_,λb ps q=>⟨#[],?_⟩⟩ λb u q=> ?_
 ·rw[oth b (nx b n) (λz=>absurd (lt_size q) (Nat.not_lt.mpr (z ▸ hd)))];exact n
 ·by_cases z:b=x
  ·rw[z];exact heo
  ·exact⟨o,k b o z q⟩
 ·rw[oth b (ntup b ys q) (ned b _ q)];exact q
 ·rw[oth b (nfrz b o u q) (ned b _ q)];exact q
 ·rw[oth b (ntbl b ps q) (ned b _ q),q];simp
 ·by_cases z:b=x
  ·subst z;rw[AG] at q;cases q;exact n2
  ·by_cases z2:b=d
   ·subst z2;rw[AM z,AG] at q;cases q;exact n1
   ·rw[oth b z z2] at q;refine(I.BL b u q).SU (λc v hc r=>k c v ?_ r) (λc r=>by rw[oth c (nown c b r) (ned c _ r)];exact r) λc xs r=>by rw[oth c (ntup c xs r) (ned c _ r)];exact r
    rcases hc with rfl | hc
    ·exact z
    ·exact nown c b hc
def uK(C:Addr)(ta tv:TE)(f:Str):TS:=λD σ H=>tv σ H λy H1=>ta σ H1 λx H2=>∃a,x= .ref a/\
 ((H2 a=some (XO a C none)/\∀dx,H2 dx=none->dx≠a->D.nx σ (upd (upd H2 dx (XD dx [(f,y)])) a (XO a C (some dx))))\/
  ∃dx fs,H2 a=some (XO a C (some dx))/\H2 dx=some (XD dx fs)/\dx≠a/\fs.length<10/\D.nx σ (upd H2 dx (XD dx (Cg f y fs))))
theorem lC{o:Expr}{f:Str}{pos:Pos}(FK:Ls X.K C fI=true)(nn:f= "code"\/f= "place")(ha:PE X o ta)(hv:PE X value tv)
  (hs:swapsWith value (some (.Attribute o f pos')) pos.line X.env=pure false):PS X (.Assign [.Attribute o f pos'] value pos) (uK C ta tv f):=by
 intro AF s σ H D I h;refine plainObj_wpAny_Assign_Attribute (CK (hv AF s σ H _ I h) ?_) hs;rintro u s1 ⟨y,H1,I1,ry,q⟩;refine CK (ha AF s1 σ H1 _ I1 q) ?_;rintro ov s2 ⟨x,H2,I2,rx,a,ex,q2⟩;subst ex;obtain rfl:ov=Value.ref a:=rx;have F:=QR I2.Xf FK;rcases q2 with⟨e,q2⟩ | ⟨dx,fs,e,e2,ne,l,q2⟩
 ·obtain⟨t,eo⟩:=oP I2.BL e;have ne:s2.heap.objs.size≠a:=ne_of_gt (lt_size eo);refine mq F nn eo rfl rfl rfl λh' tk' y1 y2 y3=>⟨σ,_,?_,q2 s2.heap.objs.size (I2.BL.fresh (Nat.le_refl _)) ne⟩;refine I2.va (x:=a) (d:=s2.heap.objs.size) (by rw[e];exact True.intro) (Nat.le_refl _) (λb u bx z=>y3 b u bx z) ⟨_,y1⟩ (uI y2 (λg=> ?_) (λg hg=> ?_) (by simp)) (uH y1) (λys z=>by cases z)
  ·by_cases z:g=f
   ·rw[if_pos z,z];show KI (List.lookup f [(f,y)]) _;simp[List.lookup];exact ry
   ·rw[if_neg z];show KI (List.lookup g [(f,y)]) _;have:(g==f)=false:=by simp[z]
    simp[List.lookup,this];exact True.intro
  ·by_cases z:g=f
   ·rw[z];simp
   ·exact absurd (if_neg z) hg
 ·obtain⟨t,eo⟩:=oP I2.BL e;obtain⟨mA,n1,r,wi,ln⟩:=uJ I2.BL e2;refine jX F nn eo rfl rfl rfl ne n1 wi (by rw[length_map,sizeLine_eq];lia) λh' tk' y1 y2 y3=>⟨σ,_,?_,q2⟩;have hk:∀b u,b≠dx->s2.heap.get? b=some u->h'.get? b=some u:=λb u bd z=>by
   by_cases ba:b=a
   ·subst ba;rw[eo] at z;cases z;exact y1
   ·exact y3 b u ba bd z
  refine I2.write (x:=dx) (e:=dx) (by rw[e2];exact True.intro) (.inl rfl) hk (let ⟨o,_,_,e',_⟩:=y2;⟨o,e'⟩) (uI y2 (λg=> ?_) (λg hg=> ?_) ?_)
  ·rw[QX];by_cases z:g=f
   ·rw[if_pos z,if_pos z];exact ry
   ·rw[if_neg z,if_neg z];exact r g
  ·by_cases z:g=f
   ·rw[z];exact(Nl f y fs).1
   ·refine(Nl f y fs).2 g (wi g λz2=>hg ?_);show (if g=f then some u else mA g)=none;rw[if_neg z];exact z2
  ·have:=QY f y fs;lia
end
section
variable{g:Array GenState}{d:Drawn}{t:Nat}{os:OsState}
variable{nm q:Str}{N:Addr}{bs bm:List Value}{hdct:Bool}{sn:List Str}{sub:List Value}{ab:Bool}{col:Option Bool}{dd:Option Addr}{k0 k1 k2 k3 k5:Option Value}{B newId initId:String}
abbrev rK(h:Heap)(C:Addr)(us:List Value):Heap:=
 (h.push ⟨.type "tuple",none,.seq us.toArray 0,#[]⟩).push ⟨.ref C,none,.fields #[.ref h.objs.size,.none,.none,.none,.bool false,.none],#[]⟩
theorem vb(F:ExcBaseFacts B newId initId bm){mN:Str->Option Value}{oI:Obj}{Q:Fin->Shared->Prop}
  (hC:h.get? C=some (excClassObj nm q C N bs bm hdct sn sub ab col dd k0 k1 k2 k3 k5 newId)) (hn:h.Ns N mN) (hi:mN "__init__"=some (.ref fI))
  (hf:h.get? fI=some oI) (hfc:oI.cls= .type "function") (hu:us.length<=sizeLine)
  (k:wpAny (model prog w) A (call (.ref fI) (.ref (h.objs.size+1)::us)) (λr s'=>r= .none/\Q (.done (.ret (.ref (h.objs.size+1)))) s') E ⟨rK h C us,g,d,t,os⟩):
  wpAny (model prog w) A (Builtin.«type.__call__» ⟨.ref C::us,[]⟩) Q E ⟨h,g,d,t,os⟩:=by
 repeat (first | with_reducible refine wpAny_loadPart_at hC ?_ | with_reducible refine wpAny_madeBy_exc hC ?_ | wp_step)
 refine codeAny_call_builtin_code (Code.quiet_builtin _ F.quiet) (wpAny_check_new_sub F hC (codeAny_exc_new_sub F hC ?_ hu));have kp:∀b o,h.get? b=some o->(rK h C us).get? b=some o:=λb o e=>get?_push_of_some _ (get?_push_of_some _ e);have ge:(rK h C us).get? (h.objs.size+1)=some ⟨.ref C,none,.fields #[.ref h.objs.size,.none,.none,.none,.bool false,.none],#[]⟩:=by heap_get
 have hcC:(Value.ref C::bm).contains (.ref C)=true:=by simp
 have hC1:=kp _ _ hC;have hf1:=kp _ _ hf;have hn1:(rK h C us).Ns N mN:=let ⟨o,es,ep,e,r⟩:=hn;⟨o,es,ep,kp _ _ e,r⟩;show wpAny _ _ _ _ _ ⟨rK h C us,g,d,t,os⟩;unfold isInstance
 repeat (first | with_reducible refine wpAny_loadPart_at ge ?_ | (with_reducible refine wpAny_isSubtype_exc hC1 ?_;rw[hcC]) | wp_step)
 show wpAny _ _ (typeLookup (.ref C) _) _ _ _;refine wpAny_typeLookup_exc hC1 hn1 F.mroIs F.init.lookup ?_;rw[hi];refine wpAny_holding (wpAny_bind ?_);unfold bindSpecial;refine wpAny_bind (wpAny_typeOf (T:= "function") ⟨_,hf1,hfc⟩ ?_);rw[if_pos (by decide)];refine wpAny_pure (wpAny_bind (wpAny_mono k ?_ λ_ _ x=>x));rintro r s' ⟨e,hQ⟩;subst e
 repeat (any_goals (first | assumption | wp_step))
theorem x5(F:ExcBaseFacts B newId initId bm){mN:Str->Option Value}{oI:Obj}
  (hC:h.get? C=some (excClassObj nm q C N bs bm hdct sn sub ab col dd k0 k1 k2 k3 k5 newId)) (hn:h.Ns N mN) (hi:mN "__init__"=some (.ref fI))
  (hf:h.get? fI=some oI) (hfc:oI.cls= .type "function") (hu:us.length<=sizeLine)
  (k:wpAny (model prog w) (A.under (.builtin "type.__call__" ⟨.ref C::us,[]⟩)) (call (.ref fI) (.ref (h.objs.size+1)::us)) (λr s'=>r= .none/\Q (.ref (h.objs.size+1)) s') E ⟨rK h C us,g,d,t,os⟩):
  wpAny (model prog w) A (call (.ref C) us) Q E ⟨h,g,d,t,os⟩:=by
 have f1:=tc_lookup;have f2:=tc_bind (.ref C);have hT:(⟨h,g,d,t,os⟩:Shared).TypeIs (.ref C) "type":=⟨_,hC,rfl⟩;refine wpAny_call (codeAny_of_tree ?_);show wpAny _ _ (callAny (.ref C) _) _ _ _
 repeat (any_goals (first | assumption | with_reducible refine wpAny_loadPart_at hC ?_ | wp_step))
 refine⟨rfl,?_⟩;refine codeAny_call_builtin_at (Code.quiet_builtin _ (by decide+kernel)) entry_typeCall (wpAny_check_type_call_sub hC (vb F hC hn hi hf hfc hu ?_));exact k
end
section
variable{CX:fJ}{k:Nat}{sp:Sp}{E:XK}{pos rpos:Pos}
theorem Inv.x6(I:Inv X AF σ H s):
  Inv X AF σ (upd H (s.heap.objs.size+1) (XO (s.heap.objs.size+1) C none)) {s with heap:=rK s.heap C us}:=by
 refine I.laid (a:=s.heap.objs.size+1) (o:=XO (s.heap.objs.size+1) C none) (h':=rK s.heap C us) (t':=s.toks) (λb u q=>get?_push_of_some _ (get?_push_of_some _ q)) (le_succ _) (uH (t:=s.heap.objs.size) ?_)
 heap_get
theorem mw{Q:VK}{vs:List V}(FK:Ls X.K C fI=true)(fn:isFn X.K (.ref fI)=true)(F:Ih X.prog X.w X.K X.mg X.AJ CX k fI fd ps sp)
  (hr:Dc (k+1) X.A) (hb:AW X.K fd ps []) (hx:IV CX X E) (I:Inv X AF σ H s) (r:Vals vs us) (hl:us.length<=sizeLine)
  (hq:sp (.ref (s.heap.objs.size+1)::vs) (upd H (s.heap.objs.size+1) (XO (s.heap.objs.size+1) C none)) (λv H2=>v= .Fn/\Q (.ref (s.heap.objs.size+1)) H2) E):
  wpAny (model X.prog X.w) X.A (call (.ref C) us) (EP X AF σ Q) X.xe s:=by
 obtain⟨nm,q,N,bs,sn,sub,ab,col,dd,k0,k1,k2,k3,k5,mN,hC,hn,hi,_⟩:=QR I.Xf FK;have I2:=Inv.x6 (C:=C) (us:=us) I;have r2:Vals (V.ref (s.heap.objs.size+1)::vs) (Value.ref (s.heap.objs.size+1)::us):= .cons rfl r;have hl2:((Value.ref (s.heap.objs.size+1)::us)++ []).length=ps.length:=by rw[append_nil,<-r2.length];exact F.len _ _ _ _ hq
 obtain⟨oI,hf,hfc⟩:∃oI,s.heap.get? fI=some oI/\oI.cls= .type "function":=by have z:typeIn X.K (.ref fI)=some (.type "function"):=beq_iff_eq.mp fn;unfold typeIn at z;obtain⟨o,q1,q2⟩:=map_eq_some_iff.mp z;exact⟨o,I.Xf _ _ q1,q2⟩
 obtain⟨hp,gg,d,tk,os⟩:=s;refine x5 PySem.F.excBase_Exception hC hn hi hf hfc hl ?_;have hb2:=hb {heap:=rK hp C us,gens:=gg,drawn:=d,toks:=tk,os:=os} (Value.ref (hp.objs.size+1)::us) I2.Xf hl2;rw[append_nil] at hb2;refine wpAny_call (codeAny_mono (F.run _ X.stack _ _ ⟨Value.ref (hp.objs.size+1)::us,[]⟩ (Value.ref (hp.objs.size+1)::us) _ _ E (hr.make C us []) (I2.rQ.make C us []) hb2 r2 hq) λr s' hq'=> ?_);cases r with
 |error e=>exact hx AF σ _ _ e s' I2 hq'
 |ok fl=>
  cases fl with
  |ret u=>obtain⟨v,H',I3,rv,ev,q3⟩:=I2.after hq';subst ev;exact⟨rv,⟨V.ref (hp.objs.size+1),H',I3,rfl,q3⟩⟩
  |next=>exact False.elim hq'
  |brk=>exact False.elim hq'
  |cont=>exact False.elim hq'
end
section
variable{M:Model}{g:Array GenState}{d:Drawn}{t:Nat}{os:OsState}{e:Addr}
theorem jY{x:Sem Value}{Q:Flow->Shared->Prop}(hh:A.handled=none)
  (k:wpAny M A x (λv s₁=>∃e t dx,v= .ref e/\Km s₁.heap C fI/\s₁.heap.get? e=some ⟨.ref C,dx,.fields #[.ref t,.none,.none,.none,.bool false,.none],#[]⟩/\E (.ref e) s₁) E s):
  wpAny M A (raiseStmt env (some x) none) Q E s:=by
 have hcB:∀C:Addr,(Value.ref C::tW).contains (.type "BaseException")=true:=λC=>by rw[contains_cons];simp[tW]
 unfold raiseStmt;refine wpAny_bind (wpAny_mono k (λv s₁ h₁=> ?_) λ_ _ x=>x);obtain⟨e,t,dx,rfl,F,he,hE⟩:=h₁;obtain⟨nm,q,N,bs,sn,sub,ab,col,dd,k0,k1,k2,k3,k5,mN,hC,hn,hi,_⟩:=F;obtain⟨hp,g,d,tk,os⟩:=s₁
 repeat (first | with_reducible refine wpAny_loadPart_at he ?_ | with_reducible refine wpAny_loadPart_at hC ?_ | (with_reducible refine wpAny_isSubtype_exc hC ?_;rw[hcB C]) | wp_step)
 exact wpAny_raiseNew_none hh hE
end
def del(H:Hp)(a:Addr):Hp:=λb=>if b=a then none else H b
theorem gB:del H a a=none:=if_pos rfl
theorem QI(h:b≠a):del H a b=H b:=if_neg h
theorem Uv(h:H b=none):del H a b=none:=by
 unfold del;split
 ·rfl
 ·exact h
theorem Inv.drop{φ:Heap->Prop}(I:Inv X AF σ H s)(e:H a=some (.ext φ)):Inv X AF σ (del H a) s:=by
 have ne:∀b o,H b=some o->(∀φ,o≠ .ext φ)->b≠a:=λb o q n z=>by rw[z,e] at q;cases q;exact n φ rfl
 refine⟨I.ok,I.os,I.bare,⟨I.AJ.keep,I.AJ.slot,λb o q n x=>Uv (I.AJ.free b o q n x),I.AJ.there,λb xs q=> ?_,λb o u q=> ?_,λb ps q=> ?_⟩,I.loc,I.cell,Uv I.free,λx c q=>Uv (I.Hh x c q),
  λp hp=>let ⟨y1,y2,y3⟩:=I.pin p hp;⟨y1,Uv y2,y3⟩,λb o q=> ?_,I.len⟩
 ·have z:=I.AJ.YR b xs q;rw[QI (ne b _ z λ φ w=>by cases w)];exact z
 ·have z:=I.AJ.Xj b o u q;rw[QI (ne b _ z λ φ w=>by cases w)];exact z
 ·obtain⟨more,z⟩:=I.AJ.Xk b ps q;exact⟨more,by rw[QI (ne b _ z λ φ w=>by cases w)];exact z⟩
 ·have ba:b≠a:=λz=>by rw[z,gB] at q;cases q
  rw[QI ba] at q;exact(I.BL b o q).SU (λc u _ r=>r) (λc r=>by rw[QI (ne c _ r λ φ w=>by cases w)];exact r) λc xs r=>by rw[QI (ne c _ r λ φ w=>by cases w)];exact r
inductive Yy(C:Addr)(vs:List V)(H:Hp)(Q:VK)(E:XK):Prop | mk:∀a c p,vs=[.ref a,c,p]->H a=some (XO a C none)->(∀dx H',H dx=none->dx≠a->H' a=some (XO a C (some dx))->H' dx=some (XD dx [("code",c),("place",p)])->(∀b,b≠a->b≠dx->H' b=H b)->Q .Fn H')->Yy C vs H Q E
def o9(C:Addr)(E0:XK)(t:TA):TS:=λ_ σ H=>t σ H λvs H1=>∃c p:V,vs=[c,p]/\
 ∀dx H',H1 dx=none->H' dx=some (XD dx [("code",c),("place",p)])->(∀b o,H1 b=some o->H' b=some o)->E0 (.ref C) (some dx) H'
section
variable
 {Kc:Shared} {YN:Hp} {E0:XK} {k:Nat} {np pos:Pos} {a b:Expr}
theorem Gn(FK:Ls K C fI=true)(fn:isFn K (.ref fI)=true)(kc:keepIn K (.ref C)=true)(F:Ih P w K mg AJ (Wu P w C) k fI fd ps (Yy C))
  (hr:Dc (k+1) (A.deeper (envOfC qual scope Kc.heap.objs.size f cd))) (hb:AW K fd ps []) (hg:Gl (KJ (Wu P w C) P w K mg AJ N qual scope f cd A Ai Kc YN E0) x) (hm:mg x=some (.ref C))
  (ha:PA (KJ (Wu P w C) P w K mg AJ N qual scope f cd A Ai Kc YN E0) [a,b] t)
  (hdb:(x==("__debug__":Str))=false:=by decide)
  (he:starEach [a,b] (KJ (Wu P w C) P w K mg AJ N qual scope f cd A Ai Kc YN E0).env=(false,eval a (KJ (Wu P w C) P w K mg AJ N qual scope f cd A Ai Kc YN E0).env)::starEach [b] (KJ (Wu P w C) P w K mg AJ N qual scope f cd A Ai Kc YN E0).env:=by rfl)
  (hpl:(backTo cpos (starEach [b] (KJ (Wu P w C) P w K mg AJ N qual scope f cd A Ai Kc YN E0).env)).any (·.1)=false:=by rfl):
  PS (KJ (Wu P w C) P w K mg AJ N qual scope f cd A Ai Kc YN E0) (.Raise (some (.Call (.Name x np) [a,b] [] cpos)) none pos) (o9 C E0 t):=by
 intro AF s σ H D I h;rw[arm_exec_Raise];simp only[evalOpt,Option.map];refine wpAny_bind (wpAny_standAt (jY (C:=C) (fI:=fI) hr.hd (wpAny_bind ?_)));refine wpAny_Call_Name_kw (SG I hg hm ?_ hdb);refine callWith_K (h₀:=AJ) I.ok.mod.tN kc (CK (ha cpos AF s σ H _ I h) ?_) he hpl;rintro us s1 ⟨vs,H1,I1,r,c,p,ev,q⟩;refine⟨I1.Xf,?_⟩;subst ev;have hl:us.length<=sizeLine:=by rw[<-r.length,sizeLine_eq];show 2<=16777216;decide
 have hn:H1 (s1.heap.objs.size+1)=none:=I1.BL.fresh (le_succ _);refine wpAny_mono (mw (X:=KJ (Wu P w C) P w K mg AJ N qual scope f cd A Ai Kc YN E0) (Q:=λv H'=>v= .ref (s1.heap.objs.size+1)/\∃dx,H1 dx=none/\dx≠s1.heap.objs.size+1/\H' (s1.heap.objs.size+1)=some (XO (s1.heap.objs.size+1) C (some dx))/\
   H' dx=some (XD dx [("code",c),("place",p)])/\∀b,b≠s1.heap.objs.size+1->b≠dx->H' b=H1 b) FK fn F hr hb (E:=λ_ _ _=>False) (Ag λ_ _ z=>z.elim) I1 r hl ?_) (λu s2 z=> ?_) λ_ _ z=>z
 ·refine⟨_,c,p,rfl,AG,λdx H' y1 y2 y3 y4 y5=>⟨rfl,rfl,dx,?_,y2,y3,y4,λb b1 b2=> ?_⟩⟩
  ·rw[AM y2] at y1;exact y1
  ·rw[y5 b b1 b2,AM b1]
 ·obtain⟨v,H',I2,rv,ev,dx,d1,d2,d3,d4,d5⟩:=z;subst ev;obtain rfl:u=Value.ref (s1.heap.objs.size+1):=rv;obtain⟨tt,eo⟩:=oP I2.BL d3;have I3:=I2.drop d3;refine wpAny_bind (wpAny_standAt (wpAny_pure ⟨_,tt,some dx,rfl,QR I2.Xf FK,eo,?_⟩));refine jS I3 (Ng I1 (le_succ _) gB) eo rfl rfl rfl rfl (q dx _ d1 ?_ λb o e=> ?_)
  ·rw[QI d2];exact d4
  ·have b1:b≠s1.heap.objs.size+1:=Ax e hn;rw[QI b1,d5 b b1 (Ax e d1)];exact e
end
abbrev Cx.dM(X:Cx)(AF:List (Addr×Obj))(ea:Addr)(oe:Obj):Cx:={X with A:=X.A.mark (some (.ref ea)),calm:=false,xe:=λ_ _=>False,pn:=X.pn++AF++ [(ea,oe)]}
abbrev Cx.kJ(X:Cx)(AF:List (Addr×Obj))(E:Value->Shared->Prop):Cx:={X with pn:=X.pn++AF,xe:=E}
section
variable{pins':List (Addr×Obj)}{ea:Addr}
theorem Inv.mark(I:Inv X AF σ H s)(g:s.heap.get? ea=some oe)(n:H ea=none)(nl:ea≠X.env.locals)(nf:ea∉X.fs)(nc:∀v,oe.data≠ .cell v):Inv (X.dM AF ea oe) [] σ H s:=
 ⟨⟨I.ok.mod,I.ok.kind,I.ok.glob,I.ok.blt,I.ok.above,I.ok.inj,I.ok.has,I.ok.rH,λz=>(by cases z),I.ok.frames,I.ok.tO,I.ok.tP,I.ok.bs,I.ok.iQ,I.ok.dA,I.ok.dB,I.ok.OO,I.ok.iT⟩,
  I.os,I.bare,I.AJ,I.loc,I.cell,I.free,I.Hh,λp hp=>by
   rw[append_nil] at hp;rcases mem_append.mp hp with hp | hp
   ·exact I.pin p hp
   ·rw[mem_singleton.mp hp];exact⟨g,n,nl,nf,nc⟩,I.BL,I.len⟩
theorem Inv.unmark(I:Inv (X.dM AF ea oe) pins' σ H s)(hd:X.calm=true->X.A.handled=none):Inv X AF σ H s:=
 ⟨⟨I.ok.mod,I.ok.kind,I.ok.glob,I.ok.blt,I.ok.above,I.ok.inj,I.ok.has,I.ok.rH,hd,I.ok.frames,I.ok.tO,I.ok.tP,I.ok.bs,I.ok.iQ,I.ok.dA,I.ok.dB,I.ok.OO,I.ok.iT⟩,
  I.os,I.bare,I.AJ,I.loc,I.cell,I.free,I.Hh,λp hp=>I.pin p (mem_append.mpr (.inl (mem_append.mpr (.inl hp)))),I.BL,I.len⟩
theorem Inv.y9(I:Inv X AF σ H s):Inv (X.kJ AF E) [] σ H s:=
 ⟨⟨I.ok.mod,I.ok.kind,I.ok.glob,I.ok.blt,I.ok.above,I.ok.inj,I.ok.has,I.ok.rH,I.ok.hd,I.ok.frames,I.ok.tO,I.ok.tP,I.ok.bs,I.ok.iQ,I.ok.dA,I.ok.dB,I.ok.OO,I.ok.iT⟩,
  I.os,I.bare,I.AJ,I.loc,I.cell,I.free,I.Hh,λp hp=>I.pin p (by rw[append_nil] at hp;exact hp),I.BL,I.len⟩
theorem Inv.bS(I:Inv (X.kJ AF E) pins' σ H s):Inv X AF σ H s:=
 ⟨⟨I.ok.mod,I.ok.kind,I.ok.glob,I.ok.blt,I.ok.above,I.ok.inj,I.ok.has,I.ok.rH,I.ok.hd,I.ok.frames,I.ok.tO,I.ok.tP,I.ok.bs,I.ok.iQ,I.ok.dA,I.ok.dB,I.ok.OO,I.ok.iT⟩,
  I.os,I.bare,I.AJ,I.loc,I.cell,I.free,I.Hh,λp hp=>I.pin p (mem_append.mpr (.inl hp)),I.BL,I.len⟩
def x8(X:Cx)(C:Addr)(ta:TE)(f:Str):TE:=λσ H Q=>ta σ H λx H1=>∃a oe dx fs v,x= .ref a/\(a,oe)∈X.pn/\oe.cls= .ref C/\oe.dict=some dx/\(∃vs,oe.data= .fields vs)/\H1 dx=some (XD dx fs)/\fs.lookup f=some v/\Q v H1
theorem lD{f:Str}{pos:Pos}(FK:Ls X.K C fI=true)(nn:f= "code"\/f= "place")(he:PE X e ta)(hb:attributeBase e f X.env (eval e X.env)=eval e X.env):PE X (.Attribute e f pos) (x8 X C ta f):=by intro AF s σ H Q I h;refine kZ hb (CK (he AF s σ H _ I h) ?_);rintro u s1 ⟨x,H1,I1,rx,a,oe,dx,fs,v,ex,mp,cl,di,⟨vs,dq⟩,xd,lk,q⟩;subst ex;obtain rfl:u=Value.ref a:=rx;obtain⟨mA,n1,r,wi,ln⟩:=uJ I1.BL xd;have rf:=r f;rw[lk] at rf;obtain⟨u,eu,ru⟩:=KI.some_of rf;have F:=QR I1.Xf FK;have g:=(I1.pin _ (mem_append.mpr (.inl mp))).1;have I2:=I1.tok (s1.toks+1);obtain⟨hp,gg,d,tk,os⟩:=s1;exact qL F nn g cl di dq n1 eu (PySem.W.handedOut_of (bf ru)) ⟨v,H1,I2,ru,q⟩
end
def zA(X:Cx)(C:Addr)(i:Nat)(EE:XK)(tb:TS)(th:List (Addr×Obj)->Addr->Obj->TS):TS:=λD σ H=>tb D σ H/\
 ∀AF ea oe dx H',EE (.ref C) (some dx) H'->oe.cls= .ref C->oe.dict=some dx->(∃vs,oe.data= .fields vs)->H' ea=none->
  th AF ea oe {nx:=λ_ _=>False,rt:=D.rt} ((replicate X.N.length none).set i (some (.ref ea))) H'
section
variable{n:Str}{body suite:List Stmt}{b0:Stmt}{tp hpos pos:Pos}{EE:XK}{th:List (Addr×Obj)->Addr->Obj->TS}
theorem vc(FK:Ls X.K C fI=true)(hg:Gl X x)(hm:X.mg x=some (.ref C))(hh:X.A.handled=none)(hst:X.stack=X.env::X.Ai)(hfr:X.env.frame=some X.env.locals)
  (hN:X.N.Nodup) (hi:X.N[i]?=some n) (hn:X.env.kindOf n=some .local) (hb:∀AF E',IV (Wu X.prog X.w C) (X.kJ AF E') EE->cz (X.kJ AF E') body tb)
  (hs:∀AF ea oe,cz (X.dM AF ea oe) (b0::suite) (th AF ea oe)) (hdb:(x==("__debug__":Str))=false:=by decide):
  PS X (.Try body [.ExceptHandler (some (.Name x tp)) (some n) (b0::suite) hpos] [] [] pos) (zA X C i EE tb th):=by
 intro AF s σ H D I ⟨h1,h2⟩;rw[arm_exec_Try];refine wpAny_bind (wpAny_standAt (wpAny_tryStmt_except ?_));refine wpAny_mono (hb AF _ ?_ [] s σ H D I.y9 h1) (λf s1 z=> ?_) λ_ _ z=>z
 ·
  intro pins' σ' H1 s1 e s' I1 hc;obtain⟨ea,dx,H',rfl,os,bare,un,BL,⟨na,fa,T,fT,fy⟩,q⟩:=hc;have J:=I1.kG (s':=s') os un BL bare (by intro b hb;cases hb);have J1:=J.bS;have nT:s1.heap.objs.size<=T:=let ⟨_,_,_,_,_,_,_,_,z,_⟩:=fy;z;have I0:=I1.bS;have hch:∀b∈ [ea,T],mQ X AF H' b:=λb m=>by
   rcases mem_cons.mp m with rfl | m
   ·exact Ng I0 na fa
   ·rw[mem_singleton.mp m];exact Ng I0 nT fT
  refine cC (AJ:=hideAll s'.heap (aH X.stack++ [ea,T])) (L:=X.env.locals) (by rw[J1.ok.frames,hst]) (by rw[<-hst];exact funFrames_hide J1.stack λenv m b z=>mem_append.mpr (.inl (mem_filterMap.mpr ⟨env,m,z⟩))) hfr
   (λb o q=>of_hideAll _ q) (hideAll_none _ (by simp)) (hideAll_none _ (by simp)) fy λh' g=> ?_
  obtain⟨g1,g2,⟨T',g3⟩,g4⟩:=g;have J2:=Uu J1 hch g1 g4;obtain⟨oe,vs,oT,ts,y1,⟨cl,di⟩,dq,y4,y5,Te,y6,y7,y8⟩:=g3;have fT':H' T'=none:=J1.BL.fresh y5;have nf:ea∉X.fs:=I0.ud na;have rT:mQ X AF H' T':=Ng J1 y5 fT';have rE:=hch ea (by simp);have ncl:∀v,oe.data≠ .cell v:=λv z=>by rw[dq] at z;cases z
  have J3:=J2.mark (oe:=oe) y1 fa rE.2.2.1 nf ncl;refine wpAny_handleBy_cons (codeAny_handlers_test (SG J3 hg hm ?_ hdb)) (by intro z;cases z);obtain⟨nm,qn,Nn,bs,sn,sub,ab,col,dd,k0,k1,k2,k3,k5,mN,hC,_⟩:=QR J3.Xf FK;refine wpAny_excMatches_sub_self (g:=s'.gens) (d:=s'.drawn) (t:=s'.toks) (os:=s'.os) hC y1 cl (by decide) ?_;refine codeAny_handlers_suite_as ?_;have hsz:3<ts.size:=(Array.getElem?_eq_some_iff.mp y8).1;unfold setFlight;refine wpAny_bind (wpAny_field y1 dq y4 ?_);rw[if_pos (show (Value.ref T' !=Value.none)=true by simp)];refine wpAny_setField y6 y7 hsz ?_;have oth:∀b,b≠T'->(h'.update T' (Obj.mapFields (·.setIfInBounds 3 ((none:Option Addr).elim Value.none λf=>rawInt f)))).get? b=h'.get? b:=λb z=>get?_update_other _ _ (Ne.symm z);have J4:Inv X AF σ' H' {s' with heap:=h'.update T' (Obj.mapFields (·.setIfInBounds 3 ((none:Option Addr).elim Value.none λf=>rawInt f)))}:=
   Uu (s:={s' with heap:=h'}) (ch:=[T']) J2 (λb m=>by rw[mem_singleton.mp m];exact rT) (λb o q=>by
    have bT:b≠T':=λz=>by rw[z,hideAll_none _ (by simp)] at q;cases q
    rw[oth b bT];exact of_hideAll _ q) λb o q nf=>⟨o.slots,(oth b λz=>by rw[z,y6] at q;cases q;exact nf ts y7).trans q⟩
  have J5:=(J4.weak (σ':=replicate X.N.length none) (by rw[length_replicate];exact J4.len.symm) λj v z=>by rw[getElem?_replicate] at z;split at z<;>cases z).mark (oe:=oe) (by rw[oth ea (Ne.symm Te)];exact y1) fa rE.2.2.1 nf ncl
  refine Uq (X:=X.dM AF ea oe) (v:=V.ref ea) J5 hN hi (.inl hn) rfl (λs5 J6=> ?_) (.inr hn);refine wpAny_mono (hs AF ea oe [] s5 _ H' _ J6 (h2 AF ea oe dx H' q cl di ⟨vs,dq⟩ fa)) (λf s6 z=> ?_) λ_ _ z=>z.elim;cases f with
  |next=>obtain⟨_,_,_,z⟩:=z;exact z.elim
  |brk=>obtain⟨_,_,_,z⟩:=z;exact z.elim
  |cont=>obtain⟨_,_,_,z⟩:=z;exact z.elim
  |ret u=>
   obtain⟨v,σ6,H6,J7,rv,z⟩:=z;have J8:=J7.unmark (λ_=>hh);obtain⟨m6,n6,_⟩:=J8.loc;refine wpAny_nameGoes hn n6 (by rw[J8.ok.kind];rfl) λh7 m7 n7 sb=> ?_;refine⟨v,replicate X.N.length none,H6,?_,rv,z⟩;have J9:=J8.weak (σ':=replicate X.N.length none) (by rw[length_replicate];exact J8.len.symm) λj v z=>by rw[getElem?_replicate] at z;split at z<;>cases z
   have old:∀b o,X.Kc.heap.get? b=some o->b≠X.env.locals:=λb o e=>ne_of_lt (lt_of_lt_of_le (lt_size e) J9.ok.above);have nu:∀b o,H6 b=some o->b≠X.env.locals:=λb o e z=>by rw[z,J9.free] at e;cases e
   refine⟨J9.ok,J9.os,J9.bare,⟨λb o e n1 n2 n3=>(sb.2 b (old b o e)).trans (J9.AJ.keep b o e n1 n2 n3),λb o e n1 n2 n3=> ?_,J9.AJ.free,λb o e n3=> ?_,J9.AJ.YR,J9.AJ.Xj,J9.AJ.Xk⟩,
    ⟨m7,n7,λj y v _ z _=> ?_⟩,λy c e=> ?_,J9.free,J9.Hh,λp hp=> ?_,λa o e=> ?_,J9.len⟩
   ·obtain⟨sl,z⟩:=J9.AJ.slot b o e n1 n2 n3;exact⟨sl,(sb.2 b (old b o e)).trans z⟩
   ·obtain⟨o',z⟩:=J9.AJ.there b o e n3;exact⟨o',(sb.2 b (old b o e)).trans z⟩
   ·rw[getElem?_replicate] at z;split at z<;>cases z
   ·obtain⟨v,o,z,r⟩:=J9.cell y c e;exact⟨v,o,(sb.2 c (J9.tQ y c e)).trans z,r⟩
   ·obtain⟨z1,z2,z3,z4⟩:=J9.pin p hp;exact⟨(sb.2 p.1 z3).trans z1,z2,z3,z4⟩
   ·exact(J9.BL a o e).SU (λb u hb g=>by
     rcases hb with rfl | hb
     ·exact(sb.2 _ (nu _ _ e)).trans g
     ·exact(sb.2 _ (nu _ _ hb)).trans g) (λ_ q=>q) (λ_ _ q=>q)
 ·cases f with
  |next=>obtain⟨σ1,H1,I1,q⟩:=z;exact wpAny_execs_nil ⟨σ1,H1,I1.bS,q⟩
  |brk=>obtain⟨σ1,H1,I1,q⟩:=z;exact⟨σ1,H1,I1.bS,q⟩
  |cont=>obtain⟨σ1,H1,I1,q⟩:=z;exact⟨σ1,H1,I1.bS,q⟩
  |ret u=>obtain⟨v,σ1,H1,I1,rv,q⟩:=z;exact⟨v,σ1,H1,I1.bS,rv,q⟩
end
end L2
namespace L2
open PySem PySem.Spec PyProof.Rows
section
variable{CX:fJ}
theorem Bm.Xg{st:Stmt}{k:Nat}{sp:Sp}(F:Bm K x qual st f fd)(S:AN N ps (AI st))
  (hb:∀(He:Value) (A:Around) (Ai:List Env) (s:Shared) (H:Hp) (vs:List V) (Q:VK) (E:XK),Dc k (A.deeper (envOfC qual (AI st) s.heap.objs.size f He))->sp vs H Q E->
   ∃t,cz (KJ CX P w K mg AJ N qual (AI st) f He A Ai s H E) (EF st) t/\t {nx:=λ_ H'=>Q .Fn H',rt:=Q} (start N vs) H)
  (len:∀vs H Q E,sp vs H Q E->vs.length=ps.length:=by intro _ _ _ _ h;first | (cases h;subst_vars;rfl) | (cases h.2;subst_vars;rfl) | (cases h;simp[*])):Ih P w K mg AJ CX (k+1) f fd ps sp:=by
 obtain⟨oc,od,kV,doc,pm,an,He,ct,osl,rfl,lk,hcd⟩:=F.ex;exact t9 lk hcd S len λA Ai s H vs Q E hr hsp=>hb He A Ai s H vs Q E hr hsp
theorem Bm.Cr{st:Stmt}{k:Nat}{sp:Sp}(F:Bm K x qual st f fd)(S:AN N ps (AI st))
  (hb:∀(He:Value) (A:Around) (Ai:List Env) (s:Shared) (H:Hp) (vs:List V) (Q:VK) (E:XK),Dc k (A.deeper (envOfC qual (AI st) s.heap.objs.size f He))->sp vs H Q E->
   ∃t,cz (KJ CX P w K mg AJ N qual (AI st) f He A Ai s H E).wa (EF st) t/\t {nx:=λ_ H'=>Q .Fn H',rt:=Q} (start N vs) H)
  (len:∀vs H Q E,sp vs H Q E->vs.length=ps.length:=by intro _ _ _ _ h;first | (cases h;subst_vars;rfl) | (cases h.2;subst_vars;rfl) | (cases h;simp[*])):Ih P w K mg AJ CX (k+1) f fd ps sp:=
 F.Xg S (λHe A Ai s H vs Q E hr hsp=>let ⟨t,h,q⟩:=hb He A Ai s H vs Q E hr hsp;⟨t,h.wa,q⟩) len
end
theorem Dc.lt{k:Nat}(r:Dc k A)(h:j<=k:=by decide):Dc j A:=r.mono h
theorem ps_sl{X:Cx}{e:Expr}{x:Str}{te:TE}{pos p:Pos}(i:Nat)(hN:X.N.Nodup)(he:PE X e te)(h:X.N[i]?=some x:=by rfl)(hl:Loc X.env.scope x:=by exact Or.inl rfl)(hs:swapsWith e (some (.Name x p)) pos.line X.env=pure false:=by rfl)(hf:X.fn x=true\/X.env.scope.names.lookup x=some .local:=by first | exact .inl rfl | exact .inr rfl | assumption):PS X (.Assign [.Name x p] e pos) (oA te (QD i)):=oy hN h hl he hs hf
theorem AK{P:Program}{w:World}{C:Addr}{X:Cx}:IV (Wu P w C) X (λ_ _ _=>False):=λ_ _ _ _ _ _ _ ⟨_,_,_,_,_,_,_,_,_,z⟩=>z.elim
def xg(t:TS):TS:=t
theorem Lu{ss:List Stmt}{t:TS}(h:cz X ss t):cz X ss (xg t):=h
theorem fO{t:TS}(h:t D σ H):xg t D σ H:=h
section
variable{pos:Pos}
theorem A9{i:Int}(hm:∃t,X.mg x=some (.int i t))(hg:Gl X x:=by rfl)(hd:(x==("__debug__":Str))=false:=by decide):PE X (.Name x pos) (tC (.int i)):=
 let ⟨t,e⟩:=hm;dY hg e ⟨t,rfl⟩ hd
theorem kK{z:Str}(hm:∃t,X.mg x=some (.str z t))(hg:Gl X x:=by rfl)(hd:(x==("__debug__":Str))=false:=by decide):PE X (.Name x pos) (tC (.str z)):=
 let ⟨t,e⟩:=hm;dY hg e ⟨t,rfl⟩ hd
theorem fW(hm:X.mg x=some (.ref a))(hg:Gl X x:=by rfl)(hd:(x==("__debug__":Str))=false:=by decide):PE X (.Name x pos) (tC (.ref a)):=
 dY hg hm rfl hd
end
theorem KY{c:TT}(Pv:St->Hp->Prop)(μ:St->Hp->Nat)(h0:Pv σ H)
  (hs:∀σ H,Pv σ H->c σ H λb H1=>if b=true then ∃N:St->Hp->Prop,(∀σ' H',N σ' H'->∃m',m'<μ σ H/\m'=μ σ' H'/\Pv σ' H')/\tb {D with nx:=N,ct:=N,bk:=D.nx} σ H1 else D.nx σ H1):Yf c tb D σ H:=
 ⟨λm σ H=>m=μ σ H/\Pv σ H,⟨_,rfl,h0⟩,λm σ H ⟨e,p⟩=>by subst e;exact hs σ H p⟩
theorem bU{c:TT}(R:St->Hp->Prop)(loop:∀nx:St->Hp->Prop,(∀σ H,R σ H->nx σ H)->Yf c tb {D with nx:=nx} σ H)(after:∀σ H,R σ H->D.nx σ H):Yf c tb D σ H:=loop D.nx after
theorem x9{u v:TS}(R:St->Hp->Prop)(first:∀nx:St->Hp->Prop,(∀σ H,R σ H->nx σ H)->u {D with nx:=nx} σ H)(after:∀σ H,R σ H->v D σ H):rN u v D σ H:=first (v D) after
theorem NZ{Pv:St->Hp->Prop}{μ:St->Hp->Nat}{m:Nat}{B:(St->Hp->Prop)->Prop}(h:B λσ' H'=>Pv σ' H'/\μ σ' H'<m):
  ∃N:St->Hp->Prop,(∀σ' H',N σ' H'->∃m',m'<m/\m'=μ σ' H'/\Pv σ' H')/\B N:=⟨_,λσ' H' ⟨p,l⟩=>⟨_,l,rfl,p⟩,h⟩
section
variable{CX:fJ}{E:XK}
theorem vd:(KJ CX P w K mg AJ N qual scope f cd A Ai s H E).K=K:=rfl
end
end L2
namespace Pr
open PySem PySem.Spec PyProof.Rows L2
def top(i:Nat):Stmt:=PySem.Challenge.pw_leastroom_s01_answers.main.body.getD i (.Pass ⟨0,0,0,0⟩)
end Pr
namespace L2
open PySem PySem.Spec PyProof.Rows
def OP(H:Hp)(p:Addr):Hp:=λb=>if b=p then none else H b
theorem OT{p:Addr}(h:b≠p):OP H p b=H b:=if_neg h
theorem SN{p:Addr}:OP H p p=none:=if_pos rfl
theorem Nr{p:Addr}(h:H b=none):OP H p b=none:=by
 by_cases z:b=p
 ·rw[z];exact SN
 ·rw[OT z];exact h
theorem lE{p:Addr}:AR (OP H p) H:=λb o e=>by
 unfold OP at e;split at e
 ·cases e
 ·exact e
theorem gC{p:Addr}{o:HO}(n:H p=none):OP (upd H p o) p=H:=funext λb=>by
 by_cases z:b=p
 ·rw[z,SN,n]
 ·rw[OT z,AM z]
theorem mx{p:Addr}{o:HO}(h:OP H p b=some o):b≠p/\H b=some o:=by
 unfold OP at h;split at h
 ·cases h
 ·rename_i n;exact⟨n,h⟩
section
variable{k:Nat}{sp:Sp}
theorem Ma.OP{H:Hp}{h:Heap}{p:Addr}{xs:List V}(x:Ma P w H h)(hp:H p=some (.lst xs)):Ma P w (OP H p) h:=λa o e=>by
 obtain⟨n,e⟩:=mx e;refine(x a o e).SU (λ_ _ _ q=>q) (λb q=> ?_) λb ys q=> ?_
 ·rw[OT (λz=>by rw[z,hp] at q;cases q)];exact q
 ·rw[OT (λz=>by rw[z,hp] at q;cases q)];exact q
theorem Ih.off(F:Ih P w K mg AJ (Wu P w C) k f fd ps sp):Ih P w K mg AJ (Wu P w C) k f fd ps (λvs H Q _=>∃p xs,H p=some (.lst xs)/\sp vs (OP H p) (λv H'=>H' p=none->Q v (upd H' p (.lst xs))) λ_ _ _=>False):=by
 refine⟨λvs H Q E ⟨p,xs,_,h⟩=>F.len _ _ _ _ h,?_⟩;rintro A Ai s H args us vs Q E hr e0 hb hv ⟨p,xs,hp,h⟩;have e1:V4 P w K mg AJ A Ai s (OP H p):=⟨e0.frames,e0.mod,λb o e=>⟨(e0.bs b o e).1,Nr (e0.bs b o e).2⟩,e0.iQ,e0.OO,λb hb=>Nr (e0.iT b hb),e0.BL.OP hp,e0.bare⟩;refine codeAny_mono (F.run A Ai s (OP H p) args us vs _ _ hr e1 hb hv h) λr s' hq=> ?_;cases r with
 |error e=>obtain⟨_,_,_,_,_,_,_,_,_,z⟩:=hq;exact z.elim
 |ok fl=>
  cases fl with
  |next=>exact hq
  |brk=>exact hq
  |cont=>exact hq
  |ret u=>
   obtain⟨v,H',os,bare,un,BL,r,q⟩:=hq;obtain⟨z,A7,n,rv,e⟩:=e0.BL p _ hp;have pf:p∉aH Ai:=λm=>by rw[e0.iT p m] at hp;cases hp
   have np:H' p=none:=un.free p _ e SN (by simp);have e':=un.keep p _ e SN pf (by simp);have nn:∀{b:Addr},H b=none->b≠p:=λe z=>by rw[z,hp] at e;cases e
   refine⟨v,upd H' p (.lst xs),os,bare,⟨λb o e n nf ne=>un.keep b o e (Nr n) nf ne,λb o e n nf ne=>un.slot b o e (Nr n) nf ne,λb o e n ne=> ?_,un.there,λb ys e=> ?_,λb o u e=> ?_,λb ps e=> ?_⟩,λa o ea=> ?_,r,q np⟩
   ·rw[AM (nn n)];exact un.free b o e (Nr n) ne
   ·have bp:b≠p:=λz=>by rw[z,hp] at e;cases e
    rw[AM bp];exact un.YR b ys (by rw[OT bp];exact e)
   ·have bp:b≠p:=λz=>by rw[z,hp] at e;cases e
    rw[AM bp];exact un.Xj b o u (by rw[OT bp];exact e)
   ·have bp:b≠p:=λz=>by rw[z,hp] at e;cases e
    rw[AM bp];exact un.Xk b ps (by rw[OT bp];exact e)
   ·by_cases ap:a=p
    ·subst ap;rw[AG] at ea;cases ea;exact⟨z,A7,n,rv,e'⟩
    ·rw[AM ap] at ea;exact(BL a o ea).SU (λ_ _ _ q=>q) (λb q=>by rw[AM (λz=>by rw[z,np] at q;cases q)];exact q) λb ys q=>by rw[AM (λz=>by rw[z,np] at q;cases q)];exact q
def yi(P:Program)(w:World):fJ:=λAi H s E e s'=>∃C,Wu P w C Ai H s E e s'
theorem Ih.zb(F:Ih P w K mg AJ (Wu P w C) k f fd ps sp):Ih P w K mg AJ (yi P w) k f fd ps sp:=
 ⟨F.len,λA Ai s H args us vs Q E hr e0 hb hv h=>codeAny_mono (F.run A Ai s H args us vs Q E hr e0 hb hv h) λr s' hq=>by
  cases r with
  |error e=>exact⟨C,hq⟩
  |ok fl=>cases fl<;>exact hq⟩
theorem yA{e:Value}(h:yi P w [] H s (λ_ _ _=>False) e s'):False:=let ⟨_,_,_,_,_,_,_,_,_,_,z⟩:=h;z
end
def kL(P:Program)(w:World)(K:Frag)(mg:Str->Option Value)(AJ:Heap)(N:List Str)(qual:Str)(scope:Scope)(f:Addr)(cd:Value)(cl:List (Str×Addr))(A:Around)(Ai:List Env)(s:Shared)(H:Hp):Cx where
 prog:=P
 w:=w
 K:=K
 mg:=mg
 AJ:=AJ
 A:=A.deeper (envX qual scope s.heap.objs.size f cd cl)
 N:=N
 Kc:=s
 YN:=H
 env:=envX qual scope s.heap.objs.size f cd cl
 Ai:=Ai
 stack:=envX qual scope s.heap.objs.size f cd cl::Ai
 ex:=[]
 calm:=true
 fn:=λ_=>false
 pn:=[]
 xe:=λ_ _=>False
structure Uw(px fx:Str)(sc:Scope):Prop where
 kind:sc.kind= .function
 co:sc.isCoroutine=false
 gen:sc.isGenerator=false
 par:sc.names.lookup px=some .local
 zc:sc.names.lookup fx=some .free
 pA:∀x∈sc.names,x.2≠ .cell
 one:∀x∈sc.names,x.2= .free->x.1=fx
section
variable{CX:fJ}{c':Addr}{px:Str}{params:Arguments}{ctv uL:Value}{x vL:V}{Q:VK}{E:XK}
theorem kM{y:Str}(h:([(fx,c)]:List (Str×Addr)).lookup y=some d):y=fx/\d=c:=by
 rw[lookup_cons] at h;cases e:y==fx with
 |true=>rw[e] at h;exact⟨eq_of_beq e,(Option.some.inj h).symm⟩
 |false=>rw[e] at h;cases h
theorem ZH:([(fx,c)]:List (Str×Addr)).lookup fx=some c:=by rw[lookup_cons,beq_self_eq_true]
theorem sI{h1:Heap}(S:Uw px fx scope)(hd:A.handled=none)(e0:V4 P w K mg AJ A Ai s H)(hc:s.heap.IsCell c (some uL))(hcH:H c=none)(rx:BI x u)(rl:BI vL uL)(hpf:px≠fx)
  (hns:h1.Ns s.heap.objs.size λy=>([(px,u)]:List (Str×Value)).reverse.lookup y) (hk:∀b o,s.heap.get? b=some o->h1.get? b=some o):
  Inv (kL P w K mg AJ [px,fx] qual scope f (.ref c') [(fx,c)] A Ai s H) [] [some x,some vL] H {s with heap:=h1,toks:=tk}:=by
 have noA:∀b:Addr,b∉(kL P w K mg AJ [px,fx] qual scope f (.ref c') [(fx,c)] A Ai s H).ex:=λb z=>absurd (show b∈([]:List Addr) from z) (by simp);have hc1:h1.IsCell c (some uL):=let ⟨o,a,b⟩:=hc;⟨o,hk _ _ a,b⟩;refine⟨⟨e0.mod,S.kind,rfl,rfl,Nat.le_refl _,λy z d a b=>(kM a).1.trans (kM b).1.symm,λy hy=> ?_,λy d z=>Bool.noConfusion z,λ_=>hd,Around.frames_deeper e0.frames,.inr ⟨rfl,rfl⟩,λb z=>absurd z (noA b),e0.bs,e0.iQ,λb _ _=>noA b,λb z=>absurd z (noA b),e0.OO,e0.iT⟩,
  rfl,e0.bare,Un.kept hk,⟨_,hns,λi y v a1 a2 a3=> ?_⟩,λy d h=> ?_,e0.BL.fresh (Nat.le_refl _),λy d h=> ?_,λp hp=>absurd (show p∈([]:List (Addr×Obj)) from hp) (by simp),e0.BL.kept hk,rfl⟩
 ·have hy:scope.names.lookup y=some .cell\/scope.names.lookup y=some .free:=hy;rcases hy with hy | hy
  ·exact absurd rfl (S.pA _ (PySem.mem_of_lookup hy))
  ·have e:y=fx:=S.one _ (PySem.mem_of_lookup hy) rfl;rw[e];exact⟨c,ZH⟩
 ·match i,a1,a2 with
  | 0,a1,a2=>
   cases a1;cases a2;exact⟨u,rx,.inl ⟨S.par,by show ([(px,u)]:List (Str×Value)).lookup px=some u;rw[lookup_cons,beq_self_eq_true]⟩⟩
  | 1,a1,a2=>
   cases a1;cases a2;exact⟨uL,rl,.inr ⟨.inr S.zc,c,ZH,hc1⟩⟩
  |i+2,a1,a2=>cases a1
 ·obtain⟨_,rfl⟩:=kM h;exact⟨_,hc1⟩
 ·obtain⟨_,rfl⟩:=kM h;exact hcH
theorem sJ{k:Nat}(hr:Dc (k+1) A)(e0:V4 P w K mg AJ A Ai s H)(ho:s.heap.get? f=some (kla_obj name qual params body scope [(fx,c)] pm c' ctv))(hcd:s.heap.CodeRec (.ref c') qual)(hc:s.heap.IsCell c (some uL))(hcH:H c=none)
  (rx:BI x u) (rl:BI vL uL) (S:Uw px fx scope) (hpf:px≠fx) (hb:bindArgs (kla_fn name qual params body scope [(fx,c)] pm (.ref c') ctv) ⟨[u],[]⟩=pure [(px,u)])
  (ht:PE (kL P w K mg AJ [px,fx] qual scope f (.ref c') [(fx,c)] A Ai s H) body te) (q:te [some x,some vL] H Q):codeAny (model P w) A (.call (.ref f) ⟨[u],[]⟩) (CR CX Ai P w H s Q E) s:=by
 refine PySem.W.kla_callFunE hr.depth ho rfl S.co S.gen rfl hcd ?_;rw[hb];refine wpAny_pure (wpAny_newFunctionEnv S.pA (λy hy=>by rw[mem_singleton.mp hy];exact S.par) (λh1 hns hsb=>⟨(e0.mod.nolimit.keeps λb o e=>(e0.bs b o e).1).fresh _ hsb,?_⟩) S.kind);have hk:∀b o,s.heap.get? b=some o->h1.get? b=some o:=λb o e=>hsb.extBut b o (ne_of_lt (lt_size e)) (get?_push_of_some _ e);have I:=sI (P:=P) (w:=w) (K:=K) (mg:=mg) (AJ:=AJ) (f:=f) (c':=c') (qual:=qual) (tk:=s.toks+1) S hr.hd e0 hc hcH rx rl hpf hns hk;refine PySem.W.kla_codeExpr (wpAny_mono (ht [] _ _ H Q I q) (λv s' hv=> ?_) λ_ _ z=>z.elim);obtain⟨y,H',J,rv,q'⟩:=hv;exact⟨y,H',J.os,J.bare,J.AJ,J.BL,rv,q'⟩
end
def bV(c:Addr)(qual:Str):HO:= .ext λh=>h.CodeRec (.ref c) qual
inductive Tab(P:Addr)(qual:Str)(pos:Pos)(H:Hp):Prop | mk:∀ps:Array Value,H P=some (.YM ps)->TriplesOk ps.toList->(codeAmong pos ps.toList=none\/∃c,codeAmong pos ps.toList=some (.ref c)/\H c=some (bV c qual))->Tab P qual pos H
def OM(mg:Str->Option Value)(h:Heap):Prop:=∃bm ob,mg "__builtins__"=some (.ref bm)/\bm≠builtinsNs/\h.get? bm=some ob/\ob.cls= .type "module"/\ob.dict=some builtinsNs/\ob.data= .plain
theorem qM(r:h.CodeRec (.ref c) qual):CT P w H h c (bV c qual):=by
 refine⟨r,?_,λh1 h2 r1 k=> ?_⟩
 ·obtain⟨d,o,vs,t,e,ho,_⟩:=r;cases e;exact⟨o,ho⟩
 ·obtain⟨d,o,vs,t,e,ho,r1⟩:=r1;cases e;exact⟨_,o,vs,t,rfl,k o ho,r1⟩
section
variable{P:Addr}{params:Arguments}{pos:Pos}{clos:List (Str×Addr)}
theorem Inv.dN(I:Inv X AF σ H {s with heap:=h',toks:=t'})(hfr:o.isFreed=false)(hc:∀v,o.data≠ .cell v):Inv X ((h'.objs.size,o)::AF) σ H {s with heap:=h'.push o,toks:=t'}:=by
 have J:Inv X AF σ H {s with heap:=h'.push o,toks:=t'}:=I.kept (h':=h'.push o) (t':=t') λb u e=>get?_push_of_some _ e;refine J.Ue λp hp=> ?_;rcases mem_cons.mp hp with rfl | hp
 ·exact⟨get?_push_size _ hfr,I.BL.fresh (Nat.le_refl _),ne_of_gt I.lt,I.ud (Nat.le_refl _),hc⟩
 ·exact J.pin p (mem_append_right _ hp)
theorem qN(I:Inv X AF σ H s)(hcl:closureFor scope X.env=pure clos)(hdef:defaultsOf params X.env=([],[]))(hcode:X.env.code= .ref c)(C:CodeHd X.AJ c P)(BM:OM X.mg X.AJ)(T:Tab P (X.env.qual++ "<lambda>") pos H)
  (h:∀f c' ctv s2 H2,Tab P (X.env.qual++ "<lambda>") pos H2->(∀b o,b≠P->H b=some o->H2 b=some o)->H2 c'=some (bV c' (X.env.qual++ "<lambda>"))->
   Inv X ((f,kla_obj "<lambda>" (X.env.qual++ "<lambda>") params body scope clos ((X.mg "__name__").getD .none) c' ctv)::AF) σ H2 s2->Q (.ref f) s2):
  wpAny (model X.prog X.w) X.A (eval (.Lambda params body scope pos) X.env) Q E s:=by
 obtain⟨ps,hP,ht,hor⟩:=T;have hPh:s.heap.get? P=some (tabObj ps):=I.BL P _ hP;have hgs:=I.ok.mod.glob.keeps I.bk;obtain⟨bm,ob,b1,b2,b3,b4,b5,b6⟩:=BM;have nb:∀{b:Addr} {o:Obj},X.AJ.get? b=some o->b≠P:=λe z=>by rw[z] at e;rw[(I.bs _ _ e).2] at hP;cases hP
 have hgP:mainGlobals≠P:=let ⟨o,_,_,e,_⟩:=I.ok.mod.glob;nb e;have hbG:bm≠mainGlobals:=λz=>by obtain⟨o,es,ep,e,hd,_⟩:=I.ok.mod.glob;rw[z,e] at b3;cases b3;rw[hd] at b6;cases b6
 have BA:s.heap.BuiltinsAt X.mg P:=⟨bm,ob,b1,b2,hbG,nb b3,I.bk _ _ b3,b4,b5,b6⟩;have CH:=C.keeps I.bk;refine PySem.W.kla_eval hdef ?_;rcases hor with hnf | ⟨c',hf,hc'⟩
 ·refine PySem.W.kla_makeFunction (mg:=X.mg) hcl I.ok.glob hgs hcode CH hPh ht hnf hgP BA λc' ctv h' tk hx hge hlt hrec htb=> ?_;have nc:H c'=none:=I.BL.fresh hge;have cP:c'≠P:=λz=>by rw[z,hP] at nc;cases nc
  have old:∀b o,b≠P->s.heap.get? b=some o->h'.get? b=some o:=λb o n e=>hx b o n e;have nn:∀{b:Addr},H b=none->b≠P:=λe z=>by rw[z,hP] at e;cases e
  have lc:∀{b:Addr} {o:Obj},s.heap.get? b=some o->b≠c':=λe=>ne_of_lt (lt_of_lt_of_le (lt_size e) hge);have up:∀{b:Addr} {o:HO},b≠P->H b=some o->(upd (upd H P (.YM (ps++#[rawInt pos.line,rawInt pos.col,.ref c']))) c' (bV c' (X.env.qual++ "<lambda>"))) b=some o:=λn e=>by rw[AM (Ax e nc),AM n];exact e
  have uP:(upd (upd H P (.YM (ps++#[rawInt pos.line,rawInt pos.col,.ref c']))) c' (bV c' (X.env.qual++ "<lambda>"))) P=some (.YM (ps++#[rawInt pos.line,rawInt pos.col,.ref c'])):=by rw[AM (Ne.symm cP),AG]
  have el:(ps++#[rawInt pos.line,rawInt pos.col,Value.ref c']).toList=ps.toList++ [rawInt pos.line,rawInt pos.col,.ref c']:=by simp
  have J:Inv X AF σ (upd (upd H P (.YM (ps++#[rawInt pos.line,rawInt pos.col,.ref c']))) c' (bV c' (X.env.qual++ "<lambda>"))) {s with heap:=h',toks:=tk}:=by
   refine I.un ⟨λb o e n _ _=>old b o (nn n) e,λb o e n _ _=>⟨o.slots,old b o (nn n) e⟩,λb o e n _=> ?_,λb o e _=> ?_,λb xs e=> ?_,λb o v e=> ?_,λb qs e=> ?_⟩ λb o e=> ?_
   ·rw[AM (lc e),AM (nn n)];exact n
   ·by_cases z:b=P
    ·rw[z];exact⟨_,htb⟩
    ·exact⟨o,old b o z e⟩
   ·exact up (λz=>by rw[z,hP] at e;cases e) e
   ·exact up (λz=>by rw[z,hP] at e;cases e) e
   ·by_cases z:b=P
    ·subst z;rw[hP] at e;cases e;exact⟨_,uP⟩
    ·exact⟨#[],by rw[up z e];simp⟩
   ·by_cases z:b=c'
    ·subst z;rw[AG] at e;cases e;exact qM hrec
    ·rw[AM z] at e;by_cases z2:b=P
     ·subst z2;rw[AG] at e;cases e;exact htb
     ·rw[AM z2] at e;refine(I.BL b o e).SU (λd v hd q=>old d v ?_ q) (λd q=> ?_) λd xs q=> ?_
      ·rcases hd with rfl | hd
       ·exact z2
       ·exact λz=>by rw[z,hP] at hd;cases hd
      ·exact up (λz=>by rw[z,hP] at q;cases q) q
      ·exact up (λz=>by rw[z,hP] at q;cases q) q
  exact h h'.objs.size c' ctv _ _ ⟨_,uP,by rw[el];exact TriplesOk_snoc _ _ _ _ ht,.inr ⟨c',by rw[el];exact codeAmong_snoc _ ht hnf,AG⟩⟩ (λb o n e=>up n e) AG (J.dN rfl λv z=>by cases z)
 ·refine PySem.W.kla_makeFunctionHit (mg:=X.mg) hcl I.ok.glob hgs hcode CH hPh ht hf BA λctv h' tk hk hsz=> ?_;exact h h'.objs.size c' ctv _ H ⟨ps,hP,ht,.inr ⟨c',hf,hc'⟩⟩ (λ_ _ _ e=>e) hc' (Inv.dN (I.kept (h':=h') (t':=tk) hk) rfl λv z=>by cases z)
end
inductive bW(K:Frag)(c P:Addr):Prop | mk:∀(od:Option Addr) (vs:Array Value) (sl:Array (Option Value)) (file:Str) (tf:Tok) (flags:Int) (tg:Tok) (inF:Bool) (text:Int) (tt:Tok),K.lookup c=some ⟨.type "code",od,.fields vs,sl⟩->vs[11]?=some (.ref P)->vs.getD 11 .none= .ref P->vs.getD 18 .none= .str file tf->vs.getD 7 .none= .int flags tg->vs.getD 9 .none= .bool inF->vs.getD 10 .none= .int text tt->c≠P->bW K c P
theorem qO{P:Addr}{od:Option Addr}{sl:Array (Option Value)}{file:Str}{tf:Tok}{flags:Int}{tg:Tok}{inF:Bool}{text:Int}{tt:Tok}(l:K.lookup c=some ⟨.type "code",od,.fields vs,sl⟩)(h1:vs[11]?=some (.ref P))(h2:vs.getD 11 .none= .ref P)(h3:vs.getD 18 .none= .str file tf)
  (h4:vs.getD 7 .none= .int flags tg) (h5:vs.getD 9 .none= .bool inF) (h6:vs.getD 10 .none= .int text tt) (h7:c≠P):bW K c P:=⟨od,vs,sl,file,tf,flags,tg,inF,text,tt,l,h1,h2,h3,h4,h5,h6,h7⟩
theorem bW.hd{P:Addr}(x:bW K c P)(X:K.In h):CodeHd h c P:=by obtain⟨od,vs,sl,file,tf,flags,tg,inF,text,tt,l,h1,h2,h3,h4,h5,h6,h7⟩:=x;exact⟨_,vs,file,tf,flags,tg,inF,text,tt,X _ _ l,rfl,rfl,h1,h2,h3,h4,h5,h6,h7⟩
theorem Bc{α:Type}{p:α->Prop}{a:α}(h:p a):∃a,p a:=⟨a,h⟩
section
theorem dj{us:List Value}:∀{xs:List V} {us:List Value},us.length=xs.length->(∀(j:Nat) x u,xs[j]?=some x->us[j]?=some u->BI x u)->Vals xs us
 | [],[],_,_=> .nil
 |x::xs,u::us,hl,h=> .cons (h 0 x u rfl rfl) (dj (us:=us) (by simpa using hl) λj y v hy hv=>h (j+1) y v (by simpa using hy) (by simpa using hv))
 | [],_::_,hl,_=>by simp at hl
 |_::_,[],hl,_=>by simp at hl
def pB:List V->Hp->VK->Prop:=λxs H Q=>∃p kvs,xs=[.ref p]/\H p=some (.dK kvs)/\∀l,H l=none->Q (.ref l) (upd H l (.lst (kvs.map λz=>kV z.1)))
theorem sL{k:Key}(h:(Bh P w).is k u=true):BI (kV k) u:=by
 rw[jK] at h;rcases Cd h with⟨i,t,rfl,rfl⟩ | ⟨x,t,rfl,rfl⟩
 ·exact⟨t,rfl⟩
 ·exact⟨t,rfl⟩
theorem Paired.at_{α β:Type}{F:α->β->Prop}:∀{l₁:List α} {l₂:List β} {i:Nat} {a:α} {b:β},Paired F l₁ l₂->l₁[i]?=some a->l₂[i]?=some b->F a b
 |_,_,0,_,_,.cons h _,e1,e2=>by cases e1;cases e2;exact h
 |_,_,i+1,_,_,.cons _ t,e1,e2=>Paired.at_ t (by simpa using e1) (by simpa using e2)
open PySem.W (KdlSrc kdl_call kdl_dict kdl_values)
theorem cE{Q:VK}{T:String}{r:Addr}{Pv:Nat->Value->Prop}{OK:Heap->Prop}(hc:X.calm=true)(I:Inv X AF σ H s)(S:KdlSrc X.prog X.w T r d n Pv OK)(BL:OK s.heap)
  (hn:n<=sizeLine) (hl:ys.length=n) (hv:∀j x u,ys[j]?=some x->Pv j u->BI x u) (q:∀l,H l=none->Q (.ref l) (upd H l (.lst ys))):
  wpAny (model X.prog X.w) X.A (call (.type "list") [.ref r]) (EP X AF σ Q) X.xe s:=by
 refine kdl_call S (I.ok.hd hc) BL hn λh' tk acc' c' kp e it=> ?_;refine⟨.ref s.heap.objs.size,_,I.laid (t':=tk) kp (Nat.le_refl _) (show CT X.prog X.w _ h' _ (.lst ys) from⟨by rw[hl];exact hn,acc'.toList,c',dj (us:=acc'.toList) ?_ λj x u hx hu=>hv j x u hx (it.2 j u ?_),by rw[Array.toArray_toList];exact e⟩),rfl,q _ (I.BL.fresh (Nat.le_refl _))⟩
 ·rw[Array.length_toList,it.1,hl]
 ·rw[<-Array.getElem?_toList];exact hu
theorem jZ(hc:X.calm=true):Ji X (.type "list") pB:=by intro AF s σ H xs us Q I r h;obtain⟨p,kvs,rfl,hp,q⟩:=h;obtain⟨u,rfl,rx⟩:=vals1 r;cases rx;obtain⟨hz,hs,vs,kv,dd⟩:=oO I.BL hp;obtain⟨ep,hat⟩:=dd.dictAt;have hl:kvs.length=vs.length:=Paired.length kv;refine cE hc I (kdl_dict (knd:=Bh X.prog X.w) (kvs:=vs) (ep:=ep) hs) hat (by lia) (by rw[length_map,hl]) (λj x u hx hu=> ?_) q;rw[getElem?_map] at hx;obtain⟨z,hz2,rfl⟩:=map_eq_some_iff.mp hx;obtain⟨k,v,hk,ik⟩:=hu;have e:=(Paired.at_ kv hz2 hk).1;rw[e];exact sL ik
def pC(td:TE):TE:=λσ H Q=>td σ H λx H1=>∃p kvs,x= .ref p/\H1 p=some (.dK kvs)/\∀l,H1 l=none->Q (.ref l) (upd H1 l (.lst (kvs.map λz=>z.2)))
theorem Yz{pos:Pos}(hc:X.calm=true)(hg:Gl X "list")(hm:X.mg "list"=none)(he:PE X e td)(hbase:attributeBase e "values" X.env (eval e X.env)=eval e X.env:=by rfl)(hline:(apos.endLine==cpos.line)=true:=by rfl)
  (hs:starEach [.Call (.Attribute e "values" apos) [] [] cpos] X.env=[(false,eval (.Call (.Attribute e "values" apos) [] [] cpos) X.env)]:=by rfl):
  PE X (.Call (.Name "list" p) [.Call (.Attribute e "values" apos) [] [] cpos] [] pos) (pC td):=by
 intro AF s σ H Q I h;refine Call_ (OQ I hg hm boot_list (PyProof.Rows.callWith_type1 ?_ hs rfl));rw[hs];refine Calls.spliced_cons (wpAny_Call_method (T:= "dict") (id:= "dict.values") hbase rfl hline F.plainAttrs_dict F.slot_dict_values F.type_dict_values (CK (he AF s σ H _ I h) ?_));rintro u s1 ⟨x,H1,I1,rx,d,kvs,ex,hd,q⟩;subst ex;obtain rfl:u=Value.ref d:=rx;obtain⟨hz,hs,vs,kv,dd⟩:=oO I1.BL hd;obtain⟨ep,hat⟩:=dd.dictAt;have hl:kvs.length=vs.length:=Paired.length kv;refine⟨dd.typeIs,dd.mapOf.noDict,?_⟩;have I2:Inv X AF σ H1 {s1 with heap:=s1.heap.push {cls:= .type "dict_values",data:= .fields #[.ref d]}}:=I1.kept (t':=s1.toks) λb ob q=>get?_push_of_some _ q;show wpAny _ _ (callWith cpos (.builtin "dict.values") [.ref d] [] []) _ X.xe s1;refine method_meetsIn F.slot_dict_values F.entry_dict_values rfl (PySem.evalArgs_none ⟨rfl,dd.typeIs,F.args_dict_values_1 _,_,meets_dict_values (Bh X.prog X.w) d hs,⟨vs,dd⟩,?_⟩);refine Calls.spliced_nil ?_;refine cE hc I2 (kdl_values (knd:=Bh X.prog X.w) (kvs:=vs) (ep:=ep)) ⟨⟨_,get?_push_size _ rfl,rfl,rfl⟩,hat.push _⟩ (by lia) (by rw[length_map,hl]) (λj x u hx hu=> ?_) q;rw[getElem?_map] at hx;obtain⟨z,hz2,rfl⟩:=map_eq_some_iff.mp hx;obtain⟨k,hk⟩:=hu;exact(Paired.at_ kv hz2 hk).2
def uM(tn:TE):TE:=λσ H Q=>tn σ H λx H1=>∃n:Nat,x= .int n/\n<=16777216/\∀l,H1 l=none->Q (.ref l) (upd H1 l (.lst ((List.range n).map λi=>V.int (i:Nat))))
theorem my{tn:TE}{pos p2 pos2:Pos}(hc:X.calm=true)(hg:Gl X "list")(hm:X.mg "list"=none)(hg2:Gl X "range")(hm2:X.mg "range"=none)(he:PE X e tn)
  (hs:starEach [.Call (.Name "range" p2) [e] [] pos2] X.env=[(false,eval (.Call (.Name "range" p2) [e] [] pos2) X.env)]:=by rfl) (hs2:starEach [e] X.env=[(false,eval e X.env)]:=by rfl):
  PE X (.Call (.Name "list" p) [.Call (.Name "range" p2) [e] [] pos2] [] pos) (uM tn):=by
 intro AF s σ H Q I h;refine Call_ (OQ I hg hm boot_list (PyProof.Rows.callWith_type1 ?_ hs rfl));rw[hs];refine Calls.spliced_cons (Call_ (OQ I hg2 hm2 boot_range (PyProof.Rows.callWith_type1 ?_ hs2 rfl)));rw[hs2];refine Calls.spliced_cons (CK (he AF s σ H _ I h) ?_);rintro u s1 ⟨x,H1,I1,rx,n,ex,hn,q⟩;subst ex;obtain⟨t,rfl⟩:=rx;refine Calls.spliced_nil (call_range_1 (Calls.spliced_nil ?_));have sz:Builtin.Range.rangeSize 0 (n:Int) 1=n:=by rw[rangeSize_one];split<;>lia
 refine call_list_range (n:=n) (I1.ok.hd hc) (IsRange.new ..) (small_one (by lia) (by lia) (by lia) (by lia)) sz (by lia) λh' tk acc' c' kp e it=> ?_;have I2:Inv X AF σ H1 {s1 with heap:=s1.heap.push {cls:= .type "range",data:= .fields #[.int 0 s1.toks,.int n t,.int 1 (s1.toks+1)]},toks:=s1.toks+1+1}:=I1.kept λb ob q=>get?_push_of_some _ q;refine⟨.ref _,_,I2.laid (t':=tk) kp (Nat.le_refl _) (show CT X.prog X.w _ h' _ (.lst ((List.range n).map λi=>V.int (i:Nat))) from⟨?_,acc'.toList,c',dj (us:=acc'.toList) ?_ λj x u hx hu=> ?_,by rw[Array.toArray_toList];exact e⟩),rfl,q _ (I2.BL.fresh (Nat.le_refl _))⟩
 ·rw[length_map,length_range,sizeLine_eq];exact hn
 ·rw[Array.length_toList,it.1,length_map,length_range]
 ·obtain⟨t',rfl⟩:=it.2 j u (by rw[<-Array.getElem?_toList];exact hu);rw[getElem?_map] at hx;obtain⟨z,hz,rfl⟩:=map_eq_some_iff.mp hx;obtain⟨_,e2⟩:=List.getElem?_eq_some_iff.mp hz;rw[List.getElem_range] at e2;subst e2;exact⟨t',by rw[Int.zero_add,Int.mul_one]⟩
def uN:V->List V->Hp->VK->Prop:=λx xs H Q=>∃i,x= .int i/\xs=[]/\Q (.int (Builtin.Int.intBits i:Nat)) H
theorem sM:wq X "int.bit_length" uN:=by intro AF s σ H x xs v us Q I rx rs h;obtain⟨i,rfl,rfl,q⟩:=h;obtain⟨t,rfl⟩:=rx;cases rs;exact call_int_bit_length ⟨.int _,H,I.tok _,⟨_,rfl⟩,q⟩
def zS:wk:=λx y H Q=>∃i j,x= .str i/\y= .str j/\i.length+j.length<=sizeLine/\Q (.str (i++j)) H
theorem sN:yS X .Add zS:=by intro AF s σ H x y v u Q I r1 r2 h;exact gu AF s σ H x y v u Q I r1 r2 h
end
section
variable{CX:fJ}{k:Nat}{ds:List Value}{E:XK}{pos:Pos}{o:Expr}{sp:Sp}{MC:Addr->List Str->Prop}
def aM(C:Addr)(ns:List Str)(sp:Sp):Sp:=λvs H Q E=>(∃a r dx fs,vs= .ref a::r/\H a=some (.ins C dx fs)/\fs.map (·.1)=ns)/\sp vs H Q E
def dO(MC:Addr->List Str->Prop)(m:Str)(sp:Sp)(E:XK)(ta:TE)(t:TA):TE:=λσ H Q=>ta σ H λx H1=>c5 x λa=>∃C dx fs,H1 a=some (.ins C dx fs)/\MC C (fs.map (·.1))/\fs.lookup m=none/\
 t σ H1 λvs H2=>(∃dx fs',H2 a=some (.ins C dx fs')/\fs'.map (·.1)=fs.map (·.1))/\sp (.ref a::vs) H2 Q E
structure yj(P:Program)(w:World)(K:Frag)(mg:Str->Option Value)(AJ:Heap)(CX:fJ)(k:Nat)(m:Str)(sp:Sp)(C:Addr)(ns:List Str):Prop where
 cl:X5 K C
 ex:∃f fd ps,Bt K C m f/\Ih P w K mg AJ CX k f fd ps (aM C ns sp)/\AW K fd ps []
theorem Ux{pl:Sem Bool}(he:PE X o ta)(M:∀C ns,MC C ns->yj X.prog X.w X.K X.mg X.AJ CX k m sp C ns)(hr:Dc k X.A)(hx:IV CX X E)(ha:PA X (e::es) t)
  (hst:starEach (e::es) X.env=(false,eval e X.env)::starEach es X.env:=by rfl) (hpl:(backTo pos (starEach es X.env)).any (·.1)=false:=by rfl)
  (ht:eval (.Call (.Attribute o m apos) (e::es) [] pos) X.env=(do
   let ov<-eval o X.env
   standAt apos.atName
   let (f,first)<-holding [ov] (getMethod ov m pl)
   callWith pos f first (backTo pos (starEach (e::es) X.env)) (backToKw pos (keywordEach [] X.env))):=by rfl):
  PE X (.Call (.Attribute o m apos) (e::es) [] pos) (dO MC m sp E ta t):=by
 intro AF s σ H Q I h;refine methodCall_KW (pl:=pl) (CK (he AF s σ H _ I h) ?_) ht;rintro u s1 ⟨x,H1,I1,rx,q⟩;replace q:=c5.ex q;obtain⟨a,ex,C,dx,fs,ea,mc,l,q⟩:=q;subst ex;obtain rfl:u=Value.ref a:=rx;obtain⟨c,f,fd,ps,hm,F,hb⟩:=M C _ mc;refine OY I1 ea c hm l ?_;refine callWith_K (first:=[.ref a]) (h₀:=X.AJ) I.ok.mod.tN hm.kp (CK (ha pos AF s1 σ H1 _ I1 q) ?_) hst hpl;rintro us s2 ⟨vs,H2,I2,r,⟨dx2,fs2,e2,n2⟩,q2⟩;refine⟨I2.Xf,?_⟩;exact Yk (us:= .ref a::us) (vs:= .ref a::vs) (dvs:=[]) F hr hb .nil hx I2 (.cons rfl r) (by rw[append_nil];exact⟨⟨a,vs,dx2,fs2,rfl,e2,n2⟩,q2⟩)
theorem Cf{pl:Sem Bool}(he:PE X o ta)(M:∀C ns,MC C ns->yj X.prog X.w X.K X.mg X.AJ CX k m sp C ns)(hr:Dc k X.A)(hx:IV CX X E)
  (ht:eval (.Call (.Attribute o m apos) [] [] pos) X.env=(do
   let ov<-eval o X.env
   standAt apos.atName
   let (f,first)<-holding [ov] (getMethod ov m pl)
   callWith pos f first (backTo pos (starEach [] X.env)) (backToKw pos (keywordEach [] X.env))):=by rfl):
  PE X (.Call (.Attribute o m apos) [] [] pos) (dO MC m sp E ta mL):=by
 intro AF s σ H Q I h;refine methodCall_KW (pl:=pl) (CK (he AF s σ H _ I h) ?_) ht;rintro u s1 ⟨x,H1,I1,rx,q2⟩;replace q2:=c5.ex q2;obtain⟨a,ex,C,dx,fs,ea,mc,l,⟨dx2,fs2,e2,n2⟩,q2⟩:=q2;subst ex;obtain rfl:u=Value.ref a:=rx;obtain⟨c,f,fd,ps,hm,F,hb⟩:=M C _ mc;refine OY I1 ea c hm l ?_;exact callWith_K0 I1.Xf hm.kp (Yk (us:=[.ref a]) (vs:=[.ref a]) (dvs:=[]) F hr hb .nil hx I1 (.cons rfl .nil) ⟨⟨a,[],dx2,fs2,rfl,e2,n2⟩,q2⟩)
theorem ve:yS X .Mult (λx y H Q=>∃i j,x= .int i/\y= .int j/\rP i j/\Q (.int (i * j)) H):=by intro AF s σ H x y v u Q I r1 r2 h;obtain⟨i,j,e1,e2,c,q⟩:=h;subst e1;subst e2;obtain⟨t,rfl⟩:=r1;obtain⟨t',rfl⟩:=r2;exact imul_int ⟨.int _,H,I.tok _,⟨_,rfl⟩,q⟩ c.ok
def gD(K:Frag):List V->Hp->VK->Prop:=λvs H Q=>∃(a:Addr) (ns:List Int),vs=[V.ref a]/\A4 K H a (ns.map V.int)/\
 ∀(ns':List Int) (p:Addr),ns'.Perm ns->ns'.Pairwise (·<= ·)->H p=none->Q (.ref p) (upd H p (.lst (ns'.map V.int)))
theorem ja:Ji X (.builtin "sorted") (gD X.K):=by
 intro AF s σ H vs us Q I r h;obtain⟨a,ns,rfl,hs,q⟩:=h;obtain⟨A7,rv,hl,hz⟩:=I.list hs;rw[Vals.mO r];have hi:=rv.AA;have hz2:ns.length<=sizeLine:=by simpa using hz
 refine PyProof.Rows.sorted_intsAny hl.isList hi (by rw[hi.length];exact hz2) λout ns' h1 h2 h3=> ?_;obtain⟨ep,he'⟩:=PyProof.Rows.sortedAll_at s.heap A7 out;have hlen:(ns'.map V.int).length<=sizeLine:=by rw[length_map,h2.length_eq];exact hz2
 exact⟨.ref _,upd H (s.heap.objs.size+1) (.lst (ns'.map V.int)),I.laid (t':=s.toks) (λ_ _=>PyProof.Rows.sortedAll_old) (le_succ _) ⟨hlen,out.toList,ep,U6 h1,he'⟩,rfl,q ns' _ h2 h3 (I.BL.fresh (le_succ _))⟩
end
section
variable{g:TG}{tt:TT}{vs:List Nat}{D:Addr}{Qd:Hp->Prop}
theorem sO(Pv:Nat->Hp->Prop)(h0:Pv 0 (upd H1 D (.lst [])))(hl:∀i H,i<=xs.length->Pv i H->A4 K H a xs)
  (hs:∀i x H T,xs[i]?=some x->Pv i H->H T=none->g (.ref T) (B0 σ vs) (upd H T (.tup [.int (i:Nat),x])) λσ2 H2=>B0 σ2 vs=B0 σ vs/\tt σ2 H2 λb H3=>if b=true then te σ2 H3 λy H4=>∃acc,H4 D=some (.lst acc)/\acc.length<sizeLine/\Pv (i+1) (upd H4 D (.lst (acc++ [y]))) else Pv (i+1) H3) (hd:∀H,Pv xs.length H->Qd H):
  ∃W:Nat->Nat->Hp->Prop,(∃m,W 0 m (upd H1 D (.lst [])))/\∀i m H,W i m H->
   ((tU K a).stop i H/\Qd H)\/((tU K a).go i H/\∃Nx:Hp->Prop,(∀H',Nx H'->∃m',m'<m/\W (i+1) m' H')/\∀x H',(tU K a).iU i H x H'->g x (B0 σ vs) H' λσ2 H2=>B0 σ2 vs=B0 σ vs/\tt σ2 H2 λb H3=>if b=true then te σ2 H3 λy H4=>∃acc,H4 D=some (.lst acc)/\acc.length<sizeLine/\Nx (upd H4 D (.lst (acc++ [y]))) else Nx H3):=by
 refine⟨λi m H=>m=xs.length - i/\i<=xs.length/\Pv i H,⟨xs.length,by simp,zero_le _,h0⟩,?_⟩;rintro i m H ⟨rfl,hi,p⟩;have q:=hl i H hi p;by_cases hlt:i<xs.length
 ·refine .inr ⟨⟨xs,xs[i],q,by simp[hlt]⟩,Pv (i+1),λH' p'=>⟨xs.length - (i+1),by lia,rfl,hlt,p'⟩,λv H' y=> ?_⟩;obtain⟨T,x,rfl,hT,rfl,y⟩:=y;exact hs i x _ T (y xs q) p hT
 ·have e:i=xs.length:=by lia
  subst e;exact .inl ⟨⟨xs,q,Nat.le_refl _⟩,hd H p⟩
theorem vf(Pv:Nat->Hp->Prop)(hxy:xs.length=ys.length)(h0:Pv 0 (upd H1 D (.lst [])))(hl:∀i H,i<=xs.length->Pv i H->A4 K H a xs/\A4 K H b ys)
  (hs:∀i x y H T,xs[i]?=some x->ys[i]?=some y->Pv i H->H T=none->g (.ref T) (B0 σ vs) (upd H T (.tup [x,y])) λσ2 H2=>B0 σ2 vs=B0 σ vs/\tt σ2 H2 λb H3=>if b=true then te σ2 H3 λy H4=>∃acc,H4 D=some (.lst acc)/\acc.length<sizeLine/\Pv (i+1) (upd H4 D (.lst (acc++ [y]))) else Pv (i+1) H3) (hd:∀H,Pv xs.length H->Qd H):
  ∃W:Nat->Nat->Hp->Prop,(∃m,W 0 m (upd H1 D (.lst [])))/\∀i m H,W i m H->
   ((tV K a b).stop i H/\Qd H)\/((tV K a b).go i H/\∃Nx:Hp->Prop,(∀H',Nx H'->∃m',m'<m/\W (i+1) m' H')/\∀x H',(tV K a b).iU i H x H'->g x (B0 σ vs) H' λσ2 H2=>B0 σ2 vs=B0 σ vs/\tt σ2 H2 λb H3=>if b=true then te σ2 H3 λy H4=>∃acc,H4 D=some (.lst acc)/\acc.length<sizeLine/\Nx (upd H4 D (.lst (acc++ [y]))) else Nx H3):=by
 refine⟨λi m H=>m=xs.length - i/\i<=xs.length/\Pv i H,⟨xs.length,by simp,zero_le _,h0⟩,?_⟩;rintro i m H ⟨rfl,hi,p⟩;obtain⟨q1,q2⟩:=hl i H hi p;by_cases hlt:i<xs.length
 ·have hlt2:i<ys.length:=by lia
  refine .inr ⟨⟨xs,ys,xs[i],ys[i],q1,q2,by simp[hlt],by simp[hlt2]⟩,Pv (i+1),λH' p'=>⟨xs.length - (i+1),by lia,rfl,hlt,p'⟩,λv H' y=> ?_⟩;obtain⟨T,x,y,rfl,hT,rfl,y1,y2⟩:=y;exact hs i x y _ T (y1 xs q1) (y2 ys q2) p hT
 ·have e:i=xs.length:=by lia
  subst e;exact .inl ⟨⟨xs,ys,q1,q2,.inl (Nat.le_refl _)⟩,hd H p⟩
end
theorem qP{g:TG}(Pv:Nat->St->Hp->Prop)(h0:Pv 0 σ H)(hl:∀i σ H,i<=xs.length->Pv i σ H->A4 K H a xs)
  (hs:∀i x σ H T,xs[i]?=some x->Pv i σ H->H T=none->g (.ref T) σ (upd H T (.tup [.int (i:Nat),x])) λσ2 H2=>tb {D with nx:=Pv (i+1),ct:=Pv (i+1),bk:=D.nx} σ2 H2) (hd:∀σ H,Pv xs.length σ H->D.nx σ H):
  ∃W:Nat->Nat->St->Hp->Prop,(∃m,W 0 m σ H)/\∀i m σ H,W i m σ H->
   ((tU K a).stop i H/\D.nx σ H)\/((tU K a).go i H/\∃N:St->Hp->Prop,(∀σ' H',N σ' H'->∃m',m'<m/\W (i+1) m' σ' H')/\∀x H',(tU K a).iU i H x H'->g x σ H' λσ2 H2=>tb {D with nx:=N,ct:=N,bk:=D.nx} σ2 H2):=by
 refine⟨λi m σ H=>m=xs.length - i/\i<=xs.length/\Pv i σ H,⟨xs.length,by simp,zero_le _,h0⟩,?_⟩;rintro i m σ H ⟨rfl,hi,p⟩;have q:=hl i σ H hi p;by_cases hlt:i<xs.length
 ·refine .inr ⟨⟨xs,xs[i],q,by simp[hlt]⟩,Pv (i+1),λσ' H' p'=>⟨xs.length - (i+1),by lia,rfl,hlt,p'⟩,λv H' y=> ?_⟩;obtain⟨T,x,rfl,hT,rfl,y⟩:=y;exact hs i x σ _ T (y xs q) p hT
 ·have e:i=xs.length:=by lia
  subst e;exact .inl ⟨⟨xs,q,Nat.le_refl _⟩,hd σ H p⟩
def rank(k:List Int):List (Int ⊕ List Nat):=k.map Sum.inl
abbrev fP(a b:List Int):Bool:=lexLt itemOrd (rank a) (rank b)
theorem sP{α β:Type}{R:α->β->Prop}:∀{l l':List β},l'.Perm l->∀{xs:List α},Paired R xs l->∃ys,ys.Perm xs/\Paired R ys l':=by
 intro l l' p;induction p with
 |nil=>intro xs h;cases h;exact⟨[],.nil,.nil⟩
 |cons b _ ih=>
  intro xs h;cases h with
  |cons r t=>obtain⟨ys,p1,p2⟩:=ih t;exact⟨_,p1.cons _,.cons r p2⟩
 |swap a b l=>
  intro xs h;cases h with
  |cons r t=>
   cases t with
   |cons r2 t2=>exact⟨_,.swap _ _ _,.cons r2 (.cons r t2)⟩
 |trans _ _ ih1 ih2=>intro xs h;obtain⟨ys,p1,p2⟩:=ih2 h;obtain⟨zs,p3,p4⟩:=ih1 p2;exact⟨zs,p3.trans p1,p4⟩
theorem kN{α β:Type}{R:α->β->Prop}:∀{xs:List α} {l:List β},Paired R xs l->∀{i:Nat} {x:α} {b:β},xs[i]?=some x->l[i]?=some b->R x b
 |_,_,.nil,_,_,_,h,_=>by cases h
 |_,_,.cons r t,0,_,_,h1,h2=>by cases h1;cases h2;exact r
 |_,_,.cons r t,i+1,_,_,h1,h2=>kN t (i:=i) h1 h2
theorem Ym{α β:Type}{R:α->β->Prop}:∀{xs:List α} {l:List β},Paired R xs l->xs.length=l.length
 |_,_,.nil=>rfl
 |_,_,.cons _ t=>congrArg (·+1) (Ym t)
theorem lF{α β:Type}{R:α->β->Prop}{x:α}{b:β}(r:R x b):∀{xs:List α} {l:List β},Paired R xs l->Paired R (xs++ [x]) (l++ [b])
 |_,_,.nil=> .cons r .nil
 |_,_,.cons q t=> .cons q (lF r t)
theorem pE{α β γ:Type}{R:α->β->Prop}{S:α->γ->Prop}:∀{xs:List α} {l:List β} {m:List γ},Paired R xs l->Paired S xs m->Paired (λx p=>R x p.1/\S x p.2) xs (l.zip m)
 |_,_,_,.nil,.nil=> .nil
 |_,_,_,.cons r t,.cons q u=> .cons ⟨r,q⟩ (pE t u)
theorem cF:∀{ks:List Int} {A7:List Value} (i:Nat),Vals (ks.map V.int) A7->tupItems (λ_=>false) i A7=some (rank ks)
 | [],_,i,h=>by cases h;rfl
 |k::ks,_,i,h=>by
  cases h with
  |cons r t=>obtain⟨tk,rfl⟩:=(show ∃t',_=Value.int k t' from r);have ih:=cF (i+1) t;show (if false=true then none else(tupItems (λ_=>false) (i+1) _).map (Sum.inl k:: ·))=_;rw[if_neg (by simp),ih];rfl
section
variable{o':Obj}
theorem Inv.pG(I:Inv X ((a,o)::AF) σ H s):∀x c,X.env.cells.lookup x=some c->c≠a:=λx c e z=>by obtain⟨e1,_,_,_,nc⟩:=I.pin (a,o) (mem_append_right _ (.head _));obtain⟨v,oc,hoc,hd⟩:=I.cell x c e;rw[z] at hoc;rw[e1] at hoc;cases hoc;exact nc v hd
theorem Inv.kO(I:Inv X ((a,o)::AF) σ H s):Inv X AF σ H s:=I.Ue λp hp=>I.pin p (mem_append_right _ (.tail _ hp))
theorem Inv.kP(I:Inv X ((a,o)::AF) σ H s)(hs:X.Kc.heap.objs.size<=a)(hp:∀p∈X.pn++AF,p.1≠a)(hsb:Heap.SameBut a s.heap h')(e':h'.get? a=some o')(hc:∀v,o'.data≠ .cell v):
  Inv X ((a,o')::AF) σ H {s with heap:=h',toks:=t'}:=by
 obtain⟨e,n,nl,nf,nc⟩:=I.pin (a,o) (mem_append_right _ (.head _));have J:=I.kO.turned (t':=t') (it:=a) (h':=h') (λb o hb q=>(hsb.2 b hb).trans q) n nl (.inr hs) I.pG hp;refine J.Ue λp hp=> ?_;rcases mem_cons.mp hp with rfl | hp
 ·exact⟨e',n,nl,nf,hc⟩
 ·exact J.pin p (mem_append_right _ hp)
theorem Inv.claim(I:Inv X ((a,seqObj "list" A7.toArray n)::AF) σ H s)(hs:X.Kc.heap.objs.size<=a)(hp:∀p∈X.pn++AF,p.1≠a)(hv:Vals ys A7)(hz:ys.length<=sizeLine):
  Inv X AF σ (upd H a (.lst ys)) s:=by
 obtain⟨e,n0,nl,nf,nc⟩:=I.pin _ (mem_append_right _ (.head _));have up:∀{b:Addr} {u:HO},H b=some u->upd H a (.lst ys) b=some u:=λq=>by rw[AM (Ax q n0)];exact q
 refine I.kO.step (h':=s.heap) (g':=s.gens) (t':=s.toks) (d':=s.drawn) (ch:=[a]) (λb hb=> ?_) (λb o _ _ _ q _=>q) (λb o _ _ _ q _=>⟨o.slots,q⟩) (λb o hb _ n=> ?_) (λb o _ q=>⟨o,q⟩) (λb xs q=>up q) (λb o u q=>up q) (λb ps q=>⟨#[],by rw[up q];simp⟩) (λm q=>q) (λb u q=> ?_) I.bare
 ·rw[mem_singleton.mp hb];exact⟨.inr hs,nl,I.pG,hp⟩
 ·rw[AM (λz=>hb (by rw[z];exact .head _))];exact n
 ·by_cases z:b=a
  ·subst z;rw[AG] at q;cases q;exact⟨hz,A7,n,hv,e⟩
  ·rw[AM z] at q;exact(I.BL b u q).SU (λ_ _ _ q=>q) (λ_ q=>up q) λ_ _ q=>up q
end
section
variable{kS:Addr}{vs:List Value}{kf:V->List Int}{e1:Nat}{Pq:PySem.Fin->Shared->Prop}
inductive Na(H:Hp)(kf:V->List Int)(x:V)(u:Value):Prop | mk:∀p,u= .ref p->H p=some (.tup ((kf x).map V.int))->Na H kf x u
theorem Na.mono{x:V}(h:Na H kf x u)(k:AR H H'):Na H' kf x u:=let ⟨p,a,b⟩:=h;⟨p,a,k _ _ b⟩
theorem Na.key(I:Inv X AF σ H s){x:V}(h:Na H kf x u):G.tupKeyC s.heap (λ_=>false) u=some (rank (kf x)):=by obtain⟨p,rfl,e⟩:=h;obtain⟨_,A7,rv,o,ho,hc,n,hd⟩:=I.BL p _ e;exact G.tupKeyC_of ho hc hd (cF 0 rv)
theorem mz(I:Inv X AF σ H s)(h0:∀x∈xs,kf x≠ []):∀{ks:List Value} {l:List V},(∀x∈l,x∈xs)->Paired (Na H kf) l ks->∃fs,TupsOf s.heap (λ_=>false) ks fs/\fs.length=ks.length:=by
 intro ks l hm h;induction h with
 |nil=>exact⟨[],.nil,rfl⟩
 | @cons x u l ks r t ih=>
  obtain⟨fs,h1,h2⟩:=ih λy hy=>hm y (.tail _ hy);obtain⟨p,rfl,e⟩:=r;obtain⟨_,A7,rv,o,ho,hc,n,hd⟩:=I.BL p _ e;cases hk:kf x with
  |nil=>exact absurd hk (h0 x (hm x (.head _)))
  |cons k r=>
   rw[hk] at rv;cases rv with
   | @cons _ v _ vs r1 t1=>obtain⟨tk,rfl⟩:=(show ∃t',v=Value.int k t' from r1);exact⟨_::fs,.cons ⟨p,o,_,n,rfl,ho,hc,hd,rfl,λ_=>⟨k,tk,rfl⟩,λz=>by cases z⟩ h1,by rw[length_cons,length_cons,h2]⟩
theorem m5{keys:Array Value}{e:Nat}(I:Inv X ((kS,seqObj "list" keys e)::(a,seqObj "list" #[] e1)::AF) σ H s)(hka:kS≠a)(hsk:X.Kc.heap.objs.size<=kS)(hsa:X.Kc.heap.objs.size<=a)(hpk:∀p∈X.pn++AF,p.1≠kS)(hpa:∀p∈X.pn++AF,p.1≠a)
  (rv:Vals xs vs) (hz:vs.length<=sizeLine) (h0:∀x∈xs,kf x≠ []) (hk:Paired (Na H kf) xs keys.toList)
  (done:∀h' ys,ys.Perm xs->ys.Pairwise (λx y=>fP (kf y) (kf x)=false)->Inv X AF σ (upd H a (.lst ys)) {s with heap:=h'}->Pq (.done (.ret .none)) {s with heap:=h'}):
  wpAny (model X.prog X.w) A (ksk_end a false vs.toArray e1 (.ref kS) keys) Pq E s:=by
 have hz2:=hz;rw[sizeLine_eq] at hz2;have hsz:keys.size=vs.length:=by have h1:=(Ym hk);have h2:=rv.length;rw[Array.length_toList] at h1;exact h1.symm.trans h2
 have hzs:(keys.zip vs.toArray).size=vs.length:=by rw[Array.size_zip,hsz,size_toArray,Nat.min_self]
 have pz:Paired (λx p=>Na H kf x p.1/\BI x p.2) xs (keys.zip vs.toArray).toList:=by rw[ksk_zip];exact pE hk rv
 have tail:∀st:SortSt,(arrOf st).Perm (keys.zip vs.toArray)->SortedToK (G.tupKindC s.heap λ_=>false) (arrOf st) (keys.zip vs.toArray).size->failedOf st=none->wpAny (model X.prog X.w) A (ksk_tail a false e1 (.ref kS) st) Pq E s:=by
  intro st hp hs hf;obtain⟨ys,py,pr⟩:=sP (Array.perm_iff_toList_perm.mp hp) pz;have hsz2:(arrOf st).size=vs.length:=by rw[hp.size_eq,hzs]
  have pw:ys.Pairwise (λx y=>fP (kf y) (kf x)=false):=by
   rw[List.pairwise_iff_getElem];intro i j hi hj hij;have ly:ys.length=(arrOf st).size:=(Ym pr).trans Array.length_toList;have q:=hs i j (Nat.le_of_lt hij) (by rw[hzs];lia);have kk:∀(n:Nat) (hn:n<ys.length),KK (G.tupKindC s.heap λ_=>false) (arrOf st) n=rank (kf ys[n]):=λn hn=>by have e:(arrOf st)[n]?=some ((arrOf st)[n]'(by lia)):=Array.getElem?_eq_getElem (by lia);have r:=kN pr (getElem?_eq_getElem hn) (by rw[Array.getElem?_toList];exact e);unfold KK;rw[e];show ((G.tupKeyC s.heap (λ_=>false) _).getD [])=_;rw[Na.key I r.1];rfl
   rw[kk i hi,kk j hj] at q;exact q
  have vo:Vals ys ((arrOf st).map (·.2)).toList:=by
   rw[Array.toList_map];clear py pw;generalize (arrOf st).toList=l at pr;induction pr with
   |nil=>exact .nil
   |cons r t ih=>exact .cons r.2 ih
  have ik:=(I.pin (kS,seqObj "list" keys e) (mem_append_right _ (.head _))).1;have ia:=(I.pin (a,seqObj "list" #[] e1) (mem_append_right _ (.tail _ (.head _)))).1;have s1:=Heap.SameBut.update s.heap kS (Obj.mapSeq λ_=>(#[]:Array Value));obtain⟨c1,k1⟩:∃c1,(s.heap.update kS (Obj.mapSeq λ_=>(#[]:Array Value))).get? kS=some (seqObj "list" #[] c1):=⟨_,get?_update_seq ik λ_=>#[]⟩;have I1:=I.kP (t':=s.toks) hsk (λp hp=>by
   rcases mem_append.mp hp with m | m
   ·exact hpk p (mem_append_left _ m)
   ·rcases mem_cons.mp m with rfl | m
    ·exact Ne.symm hka
    ·exact hpk p (mem_append_right _ m)) s1 k1 (λv z=>by cases z)
  have ia1:=(I1.pin (a,seqObj "list" #[] e1) (mem_append_right _ (.tail _ (.head _)))).1;have s2:=Heap.SameBut.update (s.heap.update kS (Obj.mapSeq λ_=>(#[]:Array Value))) a (Obj.mapSeq λ_=>(arrOf st).map (·.2));obtain⟨c2,k2⟩:∃c2,((s.heap.update kS (Obj.mapSeq λ_=>(#[]:Array Value))).update a (Obj.mapSeq λ_=>(arrOf st).map (·.2))).get? a=some (seqObj "list" ((arrOf st).map (·.2)) c2):=⟨_,get?_update_seq ia1 λ_=>(arrOf st).map (·.2)⟩;have I2:=I1.kO.kP (t':=s.toks) hsa hpa s2 k2 (λv z=>by cases z);have I3:=Inv.claim (A7:=((arrOf st).map (·.2)).toList) (ys:=ys) (by rw[Array.toArray_toList];exact I2) hsa hpa vo (by rw[py.length_eq,rv.length];exact hz);unfold ksk_tail;dsimp only;refine wpAny_bind (listUpdate_at ik rfl (wpAny_bind (wpAny_letGo (wpAny_bind (seqEpoch_at ia1 rfl ?_)))) (by rw[hsz];exact hz) (zero_le _));refine wpAny_bind (listUpdate_at ia1 rfl ?_ (zero_le _) (by show ((arrOf st).map (·.2)).size<=_;rw[Array.size_map,hsz2];lia));rw[hf];simp only[bne_self_eq_false,Bool.false_eq_true,if_false];exact wpAny_pure (done _ ys py pw I3)
 unfold ksk_end;dsimp only;simp only[Bool.false_eq_true,if_false];by_cases h2:vs.toArray.size<2
 ·rw[if_pos h2,if_pos h2,pure_bind,StateT.run_pure,pure_bind];dsimp only;refine tail (SortSt.mk' general' (keys.zip vs.toArray) #[] 7 none) (Array.Perm.refl _) (λi j hij hj=> ?_) rfl;rw[hzs] at hj;rw[size_toArray] at h2;have:i=j:=by lia
  subst this;exact KeyOrd.kle_refl _
 ·rw[if_neg h2,if_neg h2];rw[size_toArray] at h2;obtain⟨fs,t1,t2⟩:=mz I h0 (λ_ m=>m) hk;have kd:=tup_kind (M:=model X.prog X.w) (A:=A) (E:=E) (s:=s) (Q:=λk s'=>k=tuples' true/\s'=s) (by rw[t2,Array.length_toList,hsz];lia) t1 ⟨rfl,rfl⟩;rw[Array.toArray_toList] at kd;refine wpAny_bind (wpAny_mono kd (λk s' hk'=> ?_) λ_ _ z=>z);rw[hk'.1,hk'.2];refine wpAny_bind (wpAny_mono (G.wpS_sortRunsSt (κ:=G.tupKindC s.heap λ_=>false) (kd:=tuples' true) (a₀:=keys.zip vs.toArray) (st:=SortSt.mk' (tuples' true) (keys.zip vs.toArray) #[] 7 none)
   (Q:=λ_ st'=>(arrOf st').Perm (keys.zip vs.toArray)/\failedOf st'=none/\SortedToK (G.tupKindC s.heap λ_=>false) (arrOf st') (keys.zip vs.toArray).size)
   (G.tupC_ltAt (s:=s) true (G.KeepsTups.refl _)) (λp hp=> ?_) ⟨Array.Perm.refl _,rfl,rfl⟩ rfl (Stable.refl _) (by rw[hzs];lia) λst' b1 b2 b3 _=>⟨b1,b2,b3⟩) ?_ λ_ _ z=>z)
  ·obtain⟨i,hi⟩:=List.mem_iff_getElem?.mp hp;have hl:i<xs.length:=by rw[(Ym pz)];exact(List.getElem?_eq_some_iff.mp hi).1
   exact⟨_,Na.key I (kN pz (getElem?_eq_getElem hl) hi).1⟩
  ·rintro⟨⟨⟩,st'⟩ s' ⟨b0,b1,b2,b3⟩;rw[b0];exact tail st' b1 b3 b2
end
section
variable{kS:Addr}{vs:List Value}{kf:V->List Int}{e1:Nat}{Pq:PySem.Fin->Shared->Prop}
theorem AR.yB(H:Hp):AR H H:=λ_ _ e=>e
def dm(X:Cx)(AF:List (Addr×Obj))(σ:St)(H:Hp)(A:Around)(f:Addr)(kf:V->List Int)(xs:List V)(vs:List Value):Prop:=
 ∀(i:Nat) (x:V) (u:Value),xs[i]?=some x->vs[i]?=some u->BI x u->∀pins' H' s',(∀p∈AF,p∈pins')->AR H H'->Inv X pins' σ H' s'->
  wpAny (model X.prog X.w) A (call (.ref f) [u]) (λk s2=>∃H2,AR H' H2/\Na H2 kf x k/\Inv X pins' σ H2 s2) (λ_ _=>False) s'
theorem lG{α β:Type}{R S:α->β->Prop}(f:∀a b,R a b->S a b):∀{l:List α} {m:List β},Paired R l m->Paired S l m
 |_,_,.nil=> .nil
 |_,_,.cons r t=> .cons (f _ _ r) (lG f t)
theorem jb(I:Inv X ((kS,seqObj "list" #[] 0)::(a,seqObj "list" #[] e1)::AF) σ H s)(hka:kS≠a)(hsk:X.Kc.heap.objs.size<=kS)(hsa:X.Kc.heap.objs.size<=a)(hpk:∀p∈X.pn++AF,p.1≠kS)(hpa:∀p∈X.pn++AF,p.1≠a)
  (rv:Vals xs vs) (hz:vs.length<=sizeLine) (h0:∀x∈xs,kf x≠ []) (turn:dm X AF σ H A f kf xs vs)
  (done:∀H' s' ys,AR H H'->H' a=none->ys.Perm xs->ys.Pairwise (λx y=>fP (kf y) (kf x)=false)->Inv X AF σ (upd H' a (.lst ys)) s'->Pq (.done (.ret .none)) s'):
  wpAny (model X.prog X.w) A (ksk_rest a (.ref f) false vs.toArray e1 (.ref kS)) Pq E s:=by
 have hz2:=hz;rw[sizeLine_eq] at hz2;have pk2:∀p∈X.pn++(a,seqObj "list" #[] e1)::AF,p.1≠kS:=λp hp=>by
  rcases mem_append.mp hp with m | m
  ·exact hpk p (mem_append_left _ m)
  ·rcases mem_cons.mp m with rfl | m
   ·exact Ne.symm hka
   ·exact hpk p (mem_append_right _ m)
 unfold ksk_rest;refine wpAny_bind (wpAny_rule ?_);rw[List.forIn_toArray];refine wpAny_bind (ksk_fold (λi s'=>∃H' kA e,AR H H'/\Inv X ((kS,seqObj "list" kA e)::(a,seqObj "list" #[] e1)::AF) σ H' s'/\Paired (Na H' kf) (xs.take i) kA.toList) vs 0 s ⟨H,#[],0,AR.yB H,I,by simpa using Paired.nil⟩ ?_ ?_)
 ·rintro j x s' hx ⟨H',kA,e,sm,J,hk⟩;simp only[zero_add] at hk ⊢;have hj:j<vs.length:=(List.getElem?_eq_some_iff.mp hx).1;have lx:xs.length=vs.length:=rv.length;obtain⟨y,hy⟩:∃y,xs[j]?=some y:=⟨_,getElem?_eq_getElem (show j<xs.length by rw[lx];exact hj)⟩;have hzk:kA.size=j:=by
   have h1:=(Ym hk).trans Array.length_toList;rw[length_take,lx,min_eq_left (Nat.le_of_lt hj)] at h1;exact h1.symm
  refine wpAny_bind (wpAny_attempt (wpAny_mono (turn j y x hy hx (kN rv hy hx) _ H' s' (λp hp=> .tail _ (.tail _ hp)) sm J) (λk s2 h2=> ?_) λ_ _ z=>z.elim));obtain⟨H2,sm2,ka,J2⟩:=h2;dsimp only;have ik:=(J2.pin (kS,seqObj "list" kA e) (mem_append_right _ (.head _))).1;have s1:=Heap.SameBut.update s2.heap kS (Obj.mapSeq (·.push k));obtain⟨c2,k2⟩:∃c2,(s2.heap.update kS (Obj.mapSeq (·.push k))).get? kS=some (seqObj "list" (kA.push k) c2):=⟨_,get?_update_seq ik (·.push k)⟩;refine wpAny_bind (listUpdate_at ik rfl ?_ (by rw[hzk,sizeLine_eq];lia) (by show (kA.push k).size<=_;rw[Array.size_push,hzk,sizeLine_eq];lia));refine wpAny_pure ⟨rfl,H2,kA.push k,c2,sm.trans sm2,J2.kP (t':=s2.toks) hsk pk2 s1 k2 (λv z=>by cases z),?_⟩;rw[take_add_one,hy,Array.toList_push];exact lF ka (lG (λ_ _ r=>r.mono sm2) hk)
 ·rintro s' ⟨H',kA,e,sm,J,hk⟩;rw[zero_add,take_of_length_le (le_of_eq rv.length)] at hk;have ik:=(J.pin (kS,seqObj "list" kA e) (mem_append_right _ (.head _))).1;have na:=(J.pin (a,seqObj "list" #[] e1) (mem_append_right _ (.tail _ (.head _)))).2.1;refine wpAny_bind (listItems_at ik rfl ?_);exact m5 J hka hsk hsa hpk hpa rv hz h0 hk λh' ys p1 p2 J2=>done H' _ ys sm na p1 p2 J2
theorem jc(I:Inv X ((a,seqObj "list" vs.toArray n)::AF) σ H s)(hsa:X.Kc.heap.objs.size<=a)(hpa:∀p∈X.pn++AF,p.1≠a)
  (rv:Vals xs vs) (hz:vs.length<=sizeLine) (h0:∀x∈xs,kf x≠ []) (turn:dm X AF σ H A f kf xs vs)
  (done:∀H' s' ys,AR H H'->H' a=none->ys.Perm xs->ys.Pairwise (λx y=>fP (kf y) (kf x)=false)->Inv X AF σ (upd H' a (.lst ys)) s'->Pq (.done (.ret .none)) s'):
  wpAny (model X.prog X.w) A (ksk_tree a (.ref f) false) Pq E s:=by
 have hz2:=hz;rw[sizeLine_eq] at hz2;have ho:=(I.pin _ (mem_append_right _ (.head _))).1;have s1:=Heap.SameBut.update s.heap a (Obj.mapSeq λ_=>(#[]:Array Value));obtain⟨e1,k1⟩:∃e1,(s.heap.update a (Obj.mapSeq λ_=>(#[]:Array Value))).get? a=some (seqObj "list" #[] e1):=⟨_,get?_update_seq ho λ_=>#[]⟩;have I1:=I.kP (t':=s.toks) hsa hpa s1 k1 (λv z=>by cases z);have I2:=I1.kept (t':=s.toks) (h':=(s.heap.update a (Obj.mapSeq λ_=>(#[]:Array Value))).push (seqObj "tuple" vs.toArray 0)) λb u e=>get?_push_of_some _ e;have I3:=Inv.dN (t':=s.toks) (o:=seqObj "list" #[] 0) I2 rfl λv z=>by cases z
 have big:∀p∈X.pn++(a,seqObj "list" #[] e1)::AF,p.1≠((s.heap.update a (Obj.mapSeq λ_=>(#[]:Array Value))).push (seqObj "tuple" vs.toArray 0)).objs.size:=λp hp=>ne_of_lt (lt_size (I2.pin p hp).1);unfold ksk_tree;refine wpAny_bind (listItems_at ho rfl (wpAny_bind (listUpdate_at ho rfl ?_ (by rw[size_toArray];exact hz) (zero_le _))));refine wpAny_bind (seqEpoch_at k1 rfl (wpAny_bind (wpAny_newTuple ?_ hz)));refine wpAny_bind (wpAny_newList (wpAny_holding ?_) (zero_le _));exact jb I3 (Ne.symm (big _ (mem_append_right _ (.head _)))) I2.sz hsa (λp hp=>big p (by
  rcases mem_append.mp hp with m | m
  ·exact mem_append_left _ m
  ·exact mem_append_right _ (.tail _ m))) hpa rv hz h0 turn done
theorem eJ(I:Inv X AF σ H s)(hl:s.heap.IsList l vs.toArray)(rv:Vals xs vs)(hz:vs.length<=sizeLine)(h0:∀x∈xs,kf x≠ [])(turn:dm X AF σ H X.A.in1.in1 f kf xs vs)
  (done:∀p H' s' ys,AR H H'->H' p=none->ys.Perm xs->ys.Pairwise (λx y=>fP (kf y) (kf x)=false)->Inv X AF σ (upd H' p (.lst ys)) s'->Q (.ref p) s'):
  wpAny (model X.prog X.w) X.A (call (.builtin "sorted") [.ref l] [(Str.ofString "key",.ref f)]) Q E s:=by
 have hz2:=hz;rw[sizeLine_eq] at hz2;refine call_function_entry_kw kind_sorted plain_sorted entry_sorted (ksk_s1 _ _) ?_;unfold Builtin.«sorted»;refine wpAny_bind (m:=checkCount "sorted" 1 1 _) (wpAny_pure (wpAny_bind (collect_list hl ?_ hz)));have keep:∀b o,s.heap.get? b=some o->((s.heap.push (seqObj "list" #[] 0)).update s.heap.objs.size (Obj.mapSeq (·++vs.toArray))).get? b=some o:=λb o q=>by have hlt:b<s.heap.objs.size:=lt_size q;rw[Heap.get?_update_ne _ _ _ _ (ne_of_lt hlt),Heap.get?_push_ne _ _ _ (ne_of_lt hlt)];exact q
 have I1:=I.kept (t':=s.toks) keep;generalize ((s.heap.push (seqObj "list" #[] 0)).update s.heap.objs.size (Obj.mapSeq (·++vs.toArray)))=hc at I1;have I2:=Inv.dN (t':=s.toks) (o:=seqObj "list" vs.toArray 0) I1 rfl λv z=>by cases z
 refine wpAny_bind (wpAny_newList ?_ hz);refine wpAny_bind (wpAny_holding (wpAny_call_entry_kw slot_list_sort ⟨_,(I2.pin _ (mem_append_right _ (.head _))).1,rfl⟩ entry_list_sort ?_ (ksk_l1 _ _)));show wpAny (model X.prog X.w) X.A.in1.in1 (Builtin.«list.sort» ⟨[.ref hc.objs.size],[(Str.ofString "key",.ref f)]⟩) _ _ _;rw[ksk_t1];exact jc I2 I1.sz (λp hp=>ne_of_lt (lt_size (I1.pin p hp).1)) rv hz h0 turn λH' s' ys a1 a2 a3 a4 a5=>⟨_,rfl,wpAny_pure ⟨_,rfl,done _ H' s' ys a1 a2 a3 a4 a5⟩⟩
end
def pH(K:Frag)(i:Nat)(kf:V->List Int)(P:Addr)(qual:Str)(lpos:Pos)(te:TA)(tl:TE):TE:=λσ H Q=>te σ H λvs H1=>∃l xs vL,vs=[.ref l]/\A4 K H1 l xs/\σ[i]?=some (some vL)/\Tab P qual lpos H1/\(∀x∈xs,kf x≠ [])/\
 ∀H2,Tab P qual lpos H2->(∀b o,b≠P->H1 b=some o->H2 b=some o)->
  (∀x∈xs,∀H3,AR H2 H3->tl [some x,some vL] H3 λk H4=>AR H3 H4/\∃p,k= .ref p/\H4 p=some (.tup ((kf x).map V.int)))/\
  ∀H5 p ys,AR H2 H5->H5 p=none->ys.Perm xs->ys.Pairwise (λx y=>fP (kf y) (kf x)=false)->Q (.ref p) (upd H5 p (.lst ys))
section
variable{cc P:Addr}{params:Arguments}{lpos kp pos:Pos}{px:Str}{k:Nat}{kf:V->List Int}{te:TA}{tl:TE}
theorem jd(hr:Dc (k+3) X.A)(hg:Gl X "sorted")(hm:X.mg "sorted"=none)(ha:PA X [e] te)(hN:X.N[i]?=some fx)(hkc:X.env.scope.names.lookup fx=some .cell)(hlk:X.env.cells.lookup fx=some cc)
  (hcl:closureFor scope X.env=pure [(fx,cc)]) (hdef:defaultsOf params X.env=([],[])) (hcode:X.env.code= .ref c) (C:bW X.K c P) (BM:OM X.mg X.AJ) (S:Uw px fx scope) (hpf:px≠fx)
  (hb:∀qual pm cd ctv u,bindArgs (kla_fn "<lambda>" qual params body scope [(fx,cc)] pm cd ctv) ⟨[u],[]⟩=pure [(px,u)])
  (ht:∀f c' A s H,PE (kL X.prog X.w X.K X.mg X.AJ [px,fx] (X.env.qual++ "<lambda>") scope f (.ref c') [(fx,cc)] A X.stack s H) body tl)
  (hb1:starEach [e] X.env=[(false,eval e X.env)]:=by rfl):
  PE X (.Call (.Name "sorted" p) [e] [⟨some "key",.Lambda params body scope lpos,kp⟩] pos) (pH X.K i kf P (X.env.qual++ "<lambda>") lpos te tl):=by
 intro AF s σ H Q I h;refine wpAny_Call_Name_kw (OQ I hg hm boot_sorted ?_ (by decide) (by decide));refine callWith_kw (CK (ha pos AF s σ H _ I h) λus s1 h1=> ?_) (by rw[hb1];rfl) (by rw[hb1];rfl) rfl rfl;obtain⟨vs,H1,I1,r1,l,xs,vL,rfl,hS,hσ,T1,h0,h2⟩:=h1;rw[Vals.mO r1];refine kws_cons (qN (body:=body) I1 hcl hdef hcode (C.hd I.ok.mod.tN) BM T1 λf c' ctv s2 H2 T2 k2 hc2 I2=>kws_nil ?_);obtain⟨hkey,hend⟩:=h2 H2 T2 k2;have lP:∀{o:HO},H1 l=some o->(∀ps,o≠ .YM ps)->l≠P:=λe n z=>by obtain⟨ps,e2,_⟩:=T1;rw[z,e2] at e;cases e;exact n ps rfl
 have hS2:A4 X.K H2 l xs:=by
  rcases hS with(e | ⟨o,e⟩) | e
  ·exact .inl (.inl (k2 _ _ (lP e (λps z=>by cases z)) e))
  ·exact .inl (.inr ⟨o,k2 _ _ (lP e (λps z=>by cases z)) e⟩)
  ·exact .inr e
 obtain⟨A7,rv,hl,hz⟩:=I2.list hS2;show wpAny (model X.prog X.w) X.A (call (.builtin "sorted") [.ref l] [(Str.ofString "key",.ref f)]) (EP X AF σ Q) X.xe s2;refine eJ I2 hl.isList rv (by rw[<-rv.length];exact hz) h0 (λj x u hx hu rx pins' H' s' hp sm J=> ?_) λp H' s' ys a1 a2 a3 a4 a5=>⟨.ref p,upd H' p (.lst ys),a5.kO,rfl,hend H' p ys a1 a2 a3 a4⟩;have ho:=(J.pin _ (mem_append_right _ (hp _ (.head _)))).1;have hcd:=(J.BL c' _ (sm _ _ hc2)).1;obtain⟨m,hm',hl'⟩:=J.loc;obtain⟨uL,rl,lk⟩:=hl' i fx vL hN hσ (.inr (.inl hkc));have hc:s'.heap.IsCell cc (some uL):=by
  rcases lk with⟨z,_⟩ | ⟨_,d,hd,z⟩
  ·have z:X.env.scope.names.lookup fx=some .local:=z;rw[hkc] at z;cases z
  ·rw[hlk] at hd;cases hd;exact z
 refine wpAny_call (codeAny_mono (sJ (CX:=λ_ _ _ _ _ _=>False) (E:=λ_ _ _=>False) hr.in1.in1 J.rQ.in1.in1 ho hcd hc (J.Hh _ _ hlk) rx rl S hpf (hb _ _ _ _ _) (ht _ _ _ _ _) (hkey x (mem_of_getElem? hx) H' sm)) λr s3 hq=> ?_);cases r with
 |error e=>exact hq
 |ok fl=>
  cases fl with
  |next=>exact hq
  |brk=>exact hq
  |cont=>exact hq
  |ret u=>obtain⟨v,H3,J3,rv3,s3',q,rfl,e3⟩:=J.after hq;exact⟨H3,s3',⟨q,rv3,e3⟩,J3⟩
end
end L2
namespace Mt
open Valaya (Leaf Ty Rec)
open Valayc (Placed)
abbrev wd(x:Leaf):Nat:=width x
theorem QJ(x:Leaf):1<=wd x:=by unfold wd width bitsFor;exact le_max_left _ _
theorem OZ(a b:Leaf):apart a b=apart b a:=by
 have h:∀a b:Leaf,apart a b=true->apart b a=true:=by intro a b h;unfold apart at h ⊢;rw[any_eq_true] at h ⊢;obtain⟨g,hg,h2⟩:=h;rw[any_eq_true] at h2;obtain⟨k,hk,h3⟩:=h2;refine⟨k,hk,any_eq_true.mpr ⟨g,hg,?_⟩⟩;rw[Bool.and_eq_true] at h3 ⊢;refine⟨by rw[beq_iff_eq] at h3 ⊢;exact h3.1.symm,?_⟩;have:=h3.2;rw[bne_iff_ne] at this ⊢;exact λz=>this z.symm
 rw[Bool.eq_iff_iff];exact⟨h a b,h b a⟩
def Ki(a:Nat):Prop:=a=1\/a=2\/a=4\/a=8\/a=16\/a=32
def D4(w:Nat):Prop:=w=0\/w=8\/w=16\/w=32\/w=64
theorem Ki.pos{a:Nat}(h:Ki a):0<a:=by unfold Ki at h;lia
def Fits(w a n:Nat)(ob:List (Nat×Nat))(s:Nat):Prop:=s % a=0/\crosses w s n=false/\∀p∈ob,¬(s<p.1+p.2/\p.1<s+n)
def Ya(w a n:Nat)(ob:List (Nat×Nat))(s:Nat):Prop:=Fits w a n ob s/\∀u,u<s->¬Fits w a n ob u
theorem Ya.uniq{w a n:Nat}{ob ob':List (Nat×Nat)}{s u:Nat}(h:Ya w a n ob s)(k:Ya w a n ob' u)(e:∀p,p∈ob↔p∈ob'):s=u:=by
 have f:∀v,Fits w a n ob v↔Fits w a n ob' v:=λv=>by
  unfold Fits;constructor
  ·rintro⟨h1,h2,h3⟩;exact⟨h1,h2,λp hp=>h3 p ((e p).mpr hp)⟩
  ·rintro⟨h1,h2,h3⟩;exact⟨h1,h2,λp hp=>h3 p ((e p).mp hp)⟩
 rcases Nat.lt_trichotomy s u with z | z | z
 ·exact absurd ((f s).mp h.1) (k.2 s z)
 ·exact z
 ·exact absurd ((f u).mpr k.1) (h.2 u z)
theorem CC{w s n:Nat}:crosses w s n=true↔w≠0/\n<=w/\s / w≠(s+n - 1) / w:=by unfold crosses;rw[Bool.and_eq_true,Bool.and_eq_true,bne_iff_ne,bne_iff_ne,decide_eq_true_eq]
theorem cG{w s n:Nat}(hw:0<w)(hn:1<=n)(hc:n<=w):s / w≠(s+n - 1) / w↔(s / w+1) * w<s+n:=by
 have h1:s / w * w<=s:=Nat.div_mul_le_self s w;have h2:s<(s / w+1) * w:=by rw[add_mul,one_mul];exact lt_div_mul_add hw
 constructor
 ·intro h;have h3:s / w<(s+n - 1) / w:=Nat.lt_of_le_of_ne (Nat.div_le_div_right (by lia)) h;have h4:(s / w+1) * w<=s+n - 1:=Nat.le_trans (mul_le_mul_right w h3) (Nat.div_mul_le_self _ _)
  lia
 ·intro h e;have h5:s+n - 1<((s+n - 1) / w+1) * w:=by rw[add_mul,one_mul];exact lt_div_mul_add hw
  rw[<-e] at h5;lia
theorem cH{w s n u:Nat}(hn:1<=n)(h:crosses w s n=true)(h1:s<=u)(h2:u<(s / w+1) * w):crosses w u n=true:=by
 obtain⟨a,b,c⟩:=CC.mp h;have hw:0<w:=by lia
 refine CC.mpr ⟨a,b,?_⟩;rw[cG hw hn b] at c ⊢;have e:u / w=s / w:=by
  apply Nat.le_antisymm
  ·have:u / w<s / w+1:=(Nat.div_lt_iff_lt_mul hw).mpr h2
   lia
  ·exact Nat.div_le_div_right h1
 rw[e];lia
theorem Hv{w k n:Nat}(hn:1<=n):crosses w (k * w) n=false:=by
 cases h:crosses w (k * w) n with
 |false=>rfl
 |true=>
  obtain⟨a,b,c⟩:=CC.mp h;have hw:0<w:=by lia
  rw[cG hw hn b,Nat.mul_div_cancel _ hw,add_mul,one_mul] at c
  lia
theorem lH{a s:Nat}(ha:0<a):s<=Valayc.upTo a s:=by
 unfold Valayc.upTo;have:=lt_div_mul_add (a:=s+a - 1) ha
 lia
theorem Y0{a s:Nat}:Valayc.upTo a s % a=0:=by unfold Valayc.upTo;exact Nat.mul_mod_left _ _
theorem cI{a s u:Nat}(ha:0<a)(h1:s<=u)(h2:u<Valayc.upTo a s):u % a≠0:=by intro h;obtain⟨k,rfl⟩:∃k,u=k * a:=⟨u / a,by rw[mul_comm];exact(Nat.mul_div_cancel' (Nat.dvd_of_mod_eq_zero h)).symm⟩;unfold Valayc.upTo at h2;have h3:k<(s+a - 1) / a:=Nat.lt_of_mul_lt_mul_right h2;have h4:(k+1) * a<=s+a - 1:=Nat.le_trans (mul_le_mul_right a h3) (Nat.div_mul_le_self _ _);rw[add_mul,one_mul] at h4;lia
theorem qQ{w a s n:Nat}(hw:D4 w)(ha:Ki a)(hn:1<=n)(hs:s % a=0)(h:crosses w s n=true):((s / w+1) * w) % a=0:=by
 obtain⟨w0,b,c⟩:=CC.mp h;have hwp:0<w:=by lia
 by_cases d:a ∣ w
 ·exact Nat.mod_eq_zero_of_dvd (Nat.dvd_trans d (Nat.dvd_mul_left _ _))
 ·
  have d2:w ∣ a:=by unfold D4 at hw;unfold Ki at ha;rcases hw with rfl | rfl | rfl | rfl | rfl<;>rcases ha with rfl | rfl | rfl | rfl | rfl | rfl<;>first | lia | (exact absurd (by decide) d) | decide
  obtain⟨k,rfl⟩:=Nat.dvd_trans d2 (Nat.dvd_of_mod_eq_zero hs);rw[mul_comm w k,Hv hn] at h;cases h
def Pw(ps:List Placed)(x:Leaf):List (Nat×Nat):=(ps.filter λp=> !apart p.x x).map λp=>(p.s,wd p.x)
theorem QS{ps:List Placed}{x:Leaf}{q:Nat×Nat}:q∈Pw ps x↔∃p∈ps,apart p.x x=false/\q=(p.s,wd p.x):=by
 unfold Pw;rw[mem_map];constructor
 ·rintro⟨p,hp,rfl⟩;rw[mem_filter] at hp;exact⟨p,hp.1,by simpa using hp.2,rfl⟩
 ·rintro⟨p,hp,h,rfl⟩;exact⟨p,mem_filter.mpr ⟨hp,by simpa using h⟩,rfl⟩
theorem eK{w:Nat}{ps:List Placed}{x:Leaf}{s:Nat}(h:hinders w ps x s=none):Fits w x.align (wd x) (Pw ps x) s:=by
 unfold hinders at h;split at h
 ·cases h
 rename_i h1;split at h
 ·cases h
 rename_i h2;have h1:s % x.align=0:=Classical.not_not.mp h1;refine⟨h1,by simpa using h2,λq hq=> ?_⟩;obtain⟨p,hp,ha,rfl⟩:=QS.mp hq;have h3:=find?_eq_none.mp (map_eq_none_iff.mp h) p hp;rw[ha] at h3;simp only[Bool.not_false,Bool.true_and,overlap,decide_eq_true_eq] at h3;exact h3
theorem U8{w:Nat}{ps:List Placed}{x:Leaf}{s t:Nat}(ha:0<x.align)(h:hinders w ps x s=some t):s<t/\∀u,s<=u->u<t->¬Fits w x.align (wd x) (Pw ps x) u:=by
 unfold hinders at h;split at h
 ·rename_i h1;cases h;refine⟨?_,λu u1 u2 f=>cI ha u1 u2 f.1⟩;rcases lt_or_eq_of_le (lH (s:=s) ha) with z | z
  ·exact z
  ·exact absurd (by rw[z];exact Y0) h1
 split at h
 ·rename_i h1 h2;cases h;have hw:0<w:=by have:=(CC.mp h2).1;lia
  refine⟨?_,λu u1 u2 f=> ?_⟩
  ·rw[add_mul,one_mul];exact lt_div_mul_add hw
  ·have:=cH (QJ x) h2 u1 u2;rw[f.2.1] at this;cases this
 ·obtain⟨p,hp,rfl⟩:=map_eq_some_iff.mp h;have hm:=mem_of_find?_eq_some hp;have hq:=find?_some hp;simp only[overlap,Bool.and_eq_true,Bool.not_eq_true',decide_eq_true_eq] at hq;obtain⟨q1,q2,q3⟩:=hq;refine⟨q2,λu u1 u2 f=>f.2.2 _ (QS.mpr ⟨p,hm,q1,rfl⟩) ⟨u2,?_⟩⟩;show p.s<u+wd x;have:p.s<s+wd x:=q3
  lia
def left(ob:List (Nat×Nat))(s:Nat):Nat:=ob.countP λp=>decide (s<p.1+p.2)
theorem lI{ob:List (Nat×Nat)}{s t:Nat}(h:s<=t):left ob t<=left ob s:=by unfold left;refine List.countP_mono_left λp _ hp=> ?_;rw[decide_eq_true_eq] at hp ⊢;lia
theorem sQ{ob:List (Nat×Nat)}{s:Nat}{p:Nat×Nat}(hp:p∈ob)(h:s<p.1+p.2):left ob (p.1+p.2)<left ob s:=by
 induction ob with
 |nil=>cases hp
 |cons q r ih=>
  have hle:left r (p.1+p.2)<=left r s:=lI (Nat.le_of_lt h);unfold left at ih hle ⊢;rw[List.countP_cons,List.countP_cons];rcases mem_cons.mp hp with rfl | hp
  ·rw[if_neg (by simp),if_pos (by simpa using h)];lia
  ·have:=ih hp;by_cases z:p.1+p.2<q.1+q.2
   ·rw[if_pos (by simpa using z),if_pos (by simp;lia)];lia
   ·rw[if_neg (by simpa using z)];split<;>lia
def cst(w a n s:Nat):Nat:=if s % a≠0 then 2 else if crosses w s n=true then 1 else 0
theorem pI{w a n s:Nat}:cst w a n s<=2:=by
 unfold cst;split
 ·exact Nat.le_refl _
 ·split<;>lia
theorem m8{w:Nat}{ps:List Placed}{x:Leaf}{s t:Nat}(hw:D4 w)(ha:Ki x.align)(h:hinders w ps x s=some t):
  3 * left (Pw ps x) t+cst w x.align (wd x) t<3 * left (Pw ps x) s+cst w x.align (wd x) s:=by
 have hlt:=(U8 ha.pos h).1;have hl:=lI (ob:=Pw ps x) (Nat.le_of_lt hlt);unfold hinders at h;split at h
 ·rename_i h1;cases h;have e1:cst w x.align (wd x) s=2:=by unfold cst;rw[if_pos h1]
  have e2:cst w x.align (wd x) (Valayc.upTo x.align s)<=1:=by unfold cst;rw[if_neg (by simp[Y0])];split<;>lia
  lia
 rename_i h1;have h1:s % x.align=0:=Classical.not_not.mp h1;split at h
 ·rename_i h2;cases h;have e1:cst w x.align (wd x) s=1:=by unfold cst;rw[if_neg (by simp[h1]),if_pos h2]
  have e2:cst w x.align (wd x) ((s / w+1) * w)=0:=by unfold cst;rw[if_neg (by simp[qQ hw ha (QJ x) h1 h2]),if_neg (by rw[Hv (QJ x)];decide)]
  lia
 ·rename_i h2;obtain⟨p,hp,rfl⟩:=map_eq_some_iff.mp h;have hm:=mem_of_find?_eq_some hp;have hq:=find?_some hp;simp only[overlap,Bool.and_eq_true,Bool.not_eq_true',decide_eq_true_eq] at hq;have:left (Pw ps x) (p.s+wd p.x)<left (Pw ps x) s:=sQ (p:=(p.s,wd p.x)) (QS.mpr ⟨p,hm,hq.1,rfl⟩) hlt;have h3:cst w x.align (wd x) (p.s+width p.x)<=2:=pI;show 3 * left (Pw ps x) (p.s+wd p.x)+_<_
  lia
theorem RH{w:Nat}{ps:List Placed}{x:Leaf}(hw:D4 w)(ha:Ki x.align):∀(f s:Nat),3 * left (Pw ps x) s+cst w x.align (wd x) s<f->
  (∀u,u<s->¬Fits w x.align (wd x) (Pw ps x) u)->Ya w x.align (wd x) (Pw ps x) (firstFit w ps x f s)
 | 0,s,h,_=>by lia
 |f+1,s,h,hu=>by
  unfold firstFit;cases e:hinders w ps x s with
  |none=>exact⟨eK e,hu⟩
  |some t=>
   have h1:=m8 hw ha e;obtain⟨h2,h3⟩:=U8 ha.pos e;refine RH hw ha f t (by lia) λu hut=> ?_;rcases lt_or_ge u s with z | z
   ·exact hu u z
   ·exact h3 u z hut
theorem W3{w:Nat}{ps:List Placed}{x:Leaf}(hw:D4 w)(ha:Ki x.align)(hl:ps.length<=100):Ya w x.align (wd x) (Pw ps x) (firstFit w ps x FUEL 0):=by
 refine RH hw ha _ _ ?_ λu hu=>by lia
 have h1:left (Pw ps x) 0<=ps.length:=by unfold left Pw;refine Nat.le_trans List.countP_le_length ?_;rw[length_map];exact length_filter_le _ _
 have:=pI (w:=w) (a:=x.align) (n:=wd x) (s:=0);unfold FUEL;lia
def beyond(w n:Nat)(ob:List (Nat×Nat))(s:Nat):Nat:=if crosses w s n=true then(s / w+1) * w else match ob.find? λp=>decide (p.1<s+n/\s<p.1+p.2) with
 |some p=>p.1+p.2
 |none=>s
theorem m9{w n s:Nat}{ob:List (Nat×Nat)}:s<=beyond w n ob s:=by
 unfold beyond;split
 ·rename_i h;have hw:0<w:=by have:=(CC.mp h).1;lia
  have:=lt_div_mul_add (a:=s) hw;rw[add_mul,one_mul];lia
 ·split
  ·rename_i e;have:=find?_some e;simp only[decide_eq_true_eq] at this;lia
  ·exact Nat.le_refl _
theorem g7{w a n s u:Nat}{ob:List (Nat×Nat)}(hn:1<=n)(h1:s<=u)(h2:u<beyond w n ob s):¬Fits w a n ob u:=by
 unfold beyond at h2;split at h2
 ·rename_i h;intro f;have:=cH hn h h1 h2;rw[f.2.1] at this;cases this
 ·split at h2
  ·rename_i e;have hq:=find?_some e;simp only[decide_eq_true_eq] at hq;intro f;exact f.2.2 _ (mem_of_find?_eq_some e) ⟨h2,by lia⟩
  ·lia
theorem g8{w a n s:Nat}{ob:List (Nat×Nat)}(h1:s % a=0)(h2:beyond w n ob s=s):Fits w a n ob s:=by
 unfold beyond at h2;split at h2
 ·rename_i h;have hw:0<w:=by have:=(CC.mp h).1;lia
  have:=lt_div_mul_add (a:=s) hw;rw[add_mul,one_mul] at h2;lia
 ·rename_i h;split at h2
  ·rename_i e;have hq:=find?_some e;simp only[decide_eq_true_eq] at hq;lia
  ·rename_i e;refine⟨h1,by simpa using h,λp hp z=> ?_⟩;have:=find?_eq_none.mp e p hp;simp only[decide_eq_true_eq] at this;exact this ⟨z.2,z.1⟩
theorem qR{w a n:Nat}(hw:D4 w)(ha:Ki a)(hn:1<=n)(ob:List (Nat×Nat)):∃B,Fits w a n ob B:=by
 have hm:∃m,∀p∈ob,p.1+p.2<=m:=by
  induction ob with
  |nil=>exact⟨0,λp hp=>by cases hp⟩
  |cons q r ih=>
   obtain⟨m,h⟩:=ih;refine⟨m+(q.1+q.2),λp hp=> ?_⟩;rcases mem_cons.mp hp with rfl | hp
   ·lia
   ·have:=h p hp;lia
 obtain⟨m,h⟩:=hm;refine⟨m * 64,?_,?_,λp hp z=> ?_⟩
 ·unfold Ki at ha;rcases ha with rfl | rfl | rfl | rfl | rfl | rfl<;>lia
 ·unfold D4 at hw;rcases hw with rfl | rfl | rfl | rfl | rfl
  ·rfl
  ·rw[show m * 64=(m * 8) * 8 by lia];exact Hv hn
  ·rw[show m * 64=(m * 4) * 16 by lia];exact Hv hn
  ·rw[show m * 64=(m * 2) * 32 by lia];exact Hv hn
  ·exact Hv hn
 ·have:=h p hp;lia
theorem cJ{w a n s u:Nat}{ob:List (Nat×Nat)}(ha:0<a)(hn:1<=n)(hs:∀u,u<s->¬Fits w a n ob u)(hu:u<Valayc.upTo a (beyond w n ob s)):¬Fits w a n ob u:=by
 rcases lt_or_ge u s with z | z
 ·exact hs u z
 rcases lt_or_ge u (beyond w n ob s) with z2 | z2
 ·exact g7 hn z z2
 ·exact λf=>cI ha z2 hu f.1
def Bj(ls:List Valaya.Leaf)(i:Nat):List Nat:=(List.range ls.length).filter λj=>decide (j≠i) && !(match ls[i]?,ls[j]? with
 |some a,some b=>apart a b
 |_,_=>false)
theorem Oa{ls:List Leaf}{i j:Nat}{x:Leaf}(hx:ls[i]?=some x):j∈Bj ls i↔j≠i/\∃y,ls[j]?=some y/\apart x y=false:=by
 unfold Bj;rw[mem_filter,mem_range,hx];constructor
 ·rintro⟨h1,h2⟩;rw[Bool.and_eq_true,decide_eq_true_eq] at h2;obtain⟨y,hy⟩:∃y,ls[j]?=some y:=⟨_,getElem?_eq_getElem h1⟩;rw[hy] at h2;exact⟨h2.1,y,hy,by simpa using h2.2⟩
 ·rintro⟨h1,y,hy,h2⟩;refine⟨(List.getElem?_eq_some_iff.mp hy).1,?_⟩;rw[hy];simp[h1,h2]
theorem WE{ls:List Leaf}{i j:Nat}(h:j∈Bj ls i):j<ls.length:=mem_range.mp (mem_filter.mp h).1
def QC(ls:List Leaf)(st:List (Option Nat))(i:Nat):List (Nat×Nat):=(Bj ls i).filterMap λr=>match st[r]?,ls[r]? with
 |some (some b),some y=>some (b,wd y)
 |_,_=>none
theorem qS{ls:List Leaf}{st:List (Option Nat)}{i:Nat}{q:Nat×Nat}:q∈QC ls st i↔∃r∈Bj ls i,∃b y,st[r]?=some (some b)/\ls[r]?=some y/\q=(b,wd y):=by
 unfold QC;rw[mem_filterMap];constructor
 ·rintro⟨r,hr,h⟩;refine⟨r,hr,?_⟩;split at h
  ·rename_i b y e1 e2;cases h;exact⟨b,y,e1,e2,rfl⟩
  ·cases h
 ·rintro⟨r,hr,b,y,e1,e2,rfl⟩;exact⟨r,hr,by rw[e1,e2]⟩
structure Hr(ls:List Leaf)(ps:List Placed)(st:List (Option Nat)):Prop where
 len:st.length=ls.length
 at_:∀p∈ps,ls[p.i]?=some p.x/\st[p.i]?=some (some p.s)
 of:∀i b,st[i]?=some (some b)->∃p∈ps,p.i=i
 nd:(ps.map (·.i)).Nodup
theorem Hr.nil(ls:List Leaf):Hr ls [] (replicate ls.length none):=
 ⟨length_replicate,λp h=>(by cases h),λi b h=>(by rw[getElem?_replicate] at h;split at h<;>cases h),List.nodup_nil⟩
theorem Hr.ob{ls:List Leaf}{ps:List Placed}{st:List (Option Nat)}(c:Hr ls ps st){i:Nat}{x:Leaf}(hx:ls[i]?=some x)(hi:st[i]?=some none)(q:Nat×Nat):q∈Pw ps x↔q∈QC ls st i:=by
 rw[QS,qS];constructor
 ·rintro⟨p,hp,ha,rfl⟩;obtain⟨h1,h2⟩:=c.at_ p hp;refine⟨p.i,(Oa hx).mpr ⟨λz=> ?_,p.x,h1,by rw[OZ];exact ha⟩,p.s,p.x,h2,h1,rfl⟩;rw[z,hi] at h2;cases h2
 ·rintro⟨r,hr,b,y,e1,e2,rfl⟩;obtain⟨p,hp,rfl⟩:=c.of r b e1;obtain⟨h1,h2⟩:=c.at_ p hp;rw[h2] at e1;cases e1;rw[h1] at e2;cases e2;obtain⟨_,y,e3,e4⟩:=(Oa hx).mp hr;rw[h1] at e3;cases e3;exact⟨p,hp,by rw[OZ];exact e4,rfl⟩
theorem gE:∀(n:Nat) (l:List Nat),l.Nodup->(∀x∈l,x<n)->l.length<=n
 | 0,l,_,h=>by
  cases l with
  |nil=>exact Nat.le_refl _
  |cons x r=>exact absurd (h x (mem_cons_self)) (Nat.not_lt_zero _)
 |n+1,l,nd,h=>by
  have h1:=gE n (l.erase n) (nd.erase n) λx hx=>by
   have:=h x (List.mem_of_mem_erase hx);have:x≠n:=λz=>by subst z;exact(List.Nodup.not_mem_erase nd) hx
   lia
  have h2:l.length<=(l.erase n).length+1:=by
   by_cases hm:n∈l
   ·rw[List.length_erase_of_mem hm];lia
   ·rw[List.erase_of_not_mem hm];lia
  lia
theorem Hr.Hf{ls:List Leaf}{ps:List Placed}{st:List (Option Nat)}(c:Hr ls ps st):ps.length<=ls.length:=by
 have:=gE ls.length (ps.map (·.i)) c.nd λx hx=>by obtain⟨p,hp,rfl⟩:=mem_map.mp hx;exact(List.getElem?_eq_some_iff.mp (c.at_ p hp).1).1
 rwa [length_map] at this
structure QB(ls:List Leaf):Prop where
 Hf:ls.length<=24
 pos:1<=ls.length
 al:∀x∈ls,Ki x.align
 wd:∀x∈ls,wd x<=64
def ff(w:Nat)(ps:List Placed)(x:Leaf):Nat:=firstFit w ps x FUEL 0
theorem Hr.least{ls:List Leaf}{ps:List Placed}{st:List (Option Nat)}{w i:Nat}{x:Leaf}(c:Hr ls ps st)(ok:QB ls)(hw:D4 w)(hx:ls[i]?=some x)(hi:st[i]?=some none):Ya w x.align (wd x) (QC ls st i) (ff w ps x):=by
 have h:=W3 (w:=w) (ps:=ps) (x:=x) hw (ok.al x (mem_of_getElem? hx)) (by have:=c.Hf;have:=ok.Hf;lia);have f:∀v,Fits w x.align (wd x) (Pw ps x) v↔Fits w x.align (wd x) (QC ls st i) v:=λv=>by
  unfold Fits;constructor
  ·rintro⟨h1,h2,h3⟩;exact⟨h1,h2,λp hp=>h3 p ((c.ob hx hi p).mpr hp)⟩
  ·rintro⟨h1,h2,h3⟩;exact⟨h1,h2,λp hp=>h3 p ((c.ob hx hi p).mp hp)⟩
 exact⟨(f _).mp h.1,λu hu z=>h.2 u hu ((f u).mpr z)⟩
theorem Hr.put{ls:List Leaf}{ps:List Placed}{st:List (Option Nat)}{i s:Nat}{x:Leaf}(c:Hr ls ps st)(hx:ls[i]?=some x)(hi:st[i]?=some none):Hr ls (ps++ [⟨i,x,s⟩]) (st.set i (some s)):=by
 have hl:i<st.length:=(List.getElem?_eq_some_iff.mp hi).1;have hn:∀p∈ps,p.i≠i:=λp hp z=>by have:=(c.at_ p hp).2;rw[z,hi] at this;cases this
 refine⟨by rw[length_set];exact c.len,λp hp=> ?_,λj b h=> ?_,?_⟩
 ·rcases mem_append.mp hp with hp | hp
  ·rw[getElem?_set_ne (Ne.symm (hn p hp))];exact c.at_ p hp
  ·cases mem_singleton.mp hp;exact⟨hx,getElem?_set_self hl⟩
 ·by_cases z:j=i
  ·subst z;exact⟨_,mem_append.mpr (.inr (mem_singleton.mpr rfl)),rfl⟩
  ·rw[getElem?_set_ne (Ne.symm z)] at h;obtain⟨p,hp,e⟩:=c.of j b h;exact⟨p,mem_append.mpr (.inl hp),e⟩
 ·rw[map_append,nodup_append];refine⟨c.nd,by simp,λa ha b hb=> ?_⟩;obtain⟨p,hp,rfl⟩:=mem_map.mp ha;have:b=i:=by simpa using hb
  subst this;exact hn p hp
theorem ES{w:Nat}{ls:List Leaf}{o:List Nat}{i:Nat}{x:Leaf}(hx:ls[i]?=some x):Valayc.placed w ls (o++ [i])=Valayc.placed w ls o++ [⟨i,x,ff w (Valayc.placed w ls o) x⟩]:=by
 unfold Valayc.placed;rw[foldl_append];show (match ls[i]? with
  |some x=>_
  |none=>_)=_
 rw[hx];rfl
theorem QT{w:Nat}{ls:List Leaf}:∀{o:List Nat},(∀i∈o,i<ls.length)->(Valayc.placed w ls o).map (·.i)=o:=by
 intro o;have:∀r o:List Nat,r.reverse=o->(∀i∈o,i<ls.length)->(Valayc.placed w ls o).map (·.i)=o:=by
  intro r;induction r with
  |nil=>intro o h _;subst h;rfl
  |cons i r ih=>intro o h hi;subst h;rw[reverse_cons] at hi ⊢;have hlt:=hi i (by simp);rw[ES (getElem?_eq_getElem hlt),map_append,ih _ rfl λj hj=>hi j (mem_append.mpr (.inl hj))];rfl
 exact this o.reverse o (List.reverse_reverse o)
theorem ZI(ps:List Placed)(p:Placed):endOf (ps++ [p])=Nat.max (endOf ps) (p.s+wd p.x):=by unfold endOf;rw[map_append,foldl_append];rfl
theorem foldl_max{l:List Nat}:∀{a:Nat},a<=l.foldl Nat.max a/\(∀x∈l,x<=l.foldl Nat.max a)/\(l.foldl Nat.max a=a\/l.foldl Nat.max a∈l):=by
 induction l with
 |nil=>intro a;exact⟨Nat.le_refl _,λx h=>(by cases h),.inl rfl⟩
 |cons y r ih=>
  intro a;obtain⟨h1,h2,h3⟩:=ih (a:=Nat.max a y);rw[foldl_cons];refine⟨Nat.le_trans (le_max_left _ _) h1,λx hx=> ?_,?_⟩
  ·rcases mem_cons.mp hx with rfl | hx
   ·exact Nat.le_trans (Nat.le_max_right _ _) h1
   ·exact h2 x hx
  ·rcases h3 with h3 | h3
   ·rw[h3];rcases Nat.le_total a y with z | z
    ·exact .inr (by rw[show Nat.max a y=y from max_eq_right z];exact mem_cons_self)
    ·exact .inl (max_eq_left z)
   ·exact .inr (mem_cons_of_mem _ h3)
theorem Y1{ps:List Placed}{p:Placed}(h:p∈ps):p.s+wd p.x<=endOf ps:=foldl_max.2.1 _ (mem_map.mpr ⟨p,h,rfl⟩)
theorem qT{ps:List Placed}(h:ps≠ []):∃p∈ps,endOf ps=p.s+wd p.x:=by
 rcases(foldl_max (l:=ps.map λp=>p.s+width p.x) (a:=0)).2.2 with z | z
 ·cases ps with
  |nil=>exact absurd rfl h
  |cons p r=>
   have h1:=Y1 (p:=p) (ps:=p::r) (mem_cons_self);have h2:=QJ p.x;have z:endOf (p::r)=0:=z
   lia
 ·obtain⟨p,hp,e⟩:=mem_map.mp z;exact⟨p,hp,e.symm⟩
theorem Hr.full{ls:List Leaf}{w:Nat}{o:List Nat}{st:List (Option Nat)}(c:Hr ls (Valayc.placed w ls o) st)(hp:o.Perm (List.range ls.length)):st=(startsOf ls.length (Valayc.placed w ls o)).map some:=by
 have hi:=QT (w:=w) (ls:=ls) (o:=o) λi h=>mem_range.mp (hp.mem_iff.mp h);refine List.ext_getElem? λi=> ?_;unfold startsOf;rw[map_map,getElem?_map];by_cases h:i<ls.length
 ·rw[List.getElem?_range h];obtain⟨p,hpm,e⟩:∃p∈Valayc.placed w ls o,p.i=i:=by
   have:i∈(Valayc.placed w ls o).map (·.i):=by rw[hi];exact hp.mem_iff.mpr (mem_range.mpr h)
   obtain⟨p,h1,h2⟩:=mem_map.mp this;exact⟨p,h1,h2⟩
  have:∃q,(Valayc.placed w ls o).find? (λp=>p.i==i)=some q:=by
   cases z:(Valayc.placed w ls o).find? (λp=>p.i==i) with
   |some q=>exact⟨q,rfl⟩
   |none=>have:=find?_eq_none.mp z p hpm;simp[e] at this
  obtain⟨q,hq⟩:=this;have hqi:q.i=i:=by simpa using find?_some hq
  show st[i]?=some (some (((Valayc.placed w ls o).find? (λp=>p.i==i)).map (λp=>p.s) |>.getD 0));rw[hq];show st[i]?=some (some q.s);rw[<-hqi];exact(c.at_ q (mem_of_find?_eq_some hq)).2
 ·rw[getElem?_eq_none (by rw[c.len];lia),getElem?_eq_none (by simp;lia)];rfl
theorem De{n:Nat}{ps:List Placed}:(startsOf n ps).length=n:=by unfold startsOf;simp
def ends(ls:List Leaf)(ss:List Nat):List Nat:=(ss.zip ls).map λz=>z.1+wd z.2
theorem Y2{ls:List Leaf}{w:Nat}{o:List Nat}{st:List (Option Nat)}(c:Hr ls (Valayc.placed w ls o) st)(hp:o.Perm (List.range ls.length))(hpos:1<=ls.length){m:Nat}
  (hm:m∈ends ls (startsOf ls.length (Valayc.placed w ls o))) (hle:∀y∈ends ls (startsOf ls.length (Valayc.placed w ls o)),y<=m):m=bitsOf w ls o:=by
 have hf:=c.full hp;generalize hss:startsOf ls.length (Valayc.placed w ls o)=ss at *;have hi:=QT (w:=w) (ls:=ls) (o:=o) λi h=>mem_range.mp (hp.mem_iff.mp h);have sl:ss.length=ls.length:=by rw[<-hss,De]
 have at_ss:∀p∈Valayc.placed w ls o,p.s+wd p.x∈ends ls ss:=λp hpm=>by obtain⟨h1,h2⟩:=c.at_ p hpm;rw[hf,getElem?_map] at h2;obtain⟨b,hb,e⟩:=map_eq_some_iff.mp h2;cases e;refine mem_map.mpr ⟨(p.s,p.x),mem_of_getElem? (i:=p.i) ?_,rfl⟩;rw[getElem?_zip_eq_some];exact⟨hb,h1⟩
 unfold bitsOf;apply Nat.le_antisymm
 ·unfold ends at hm;obtain⟨z,hz,rfl⟩:=mem_map.mp hm;obtain⟨i,hi2⟩:=getElem?_of_mem hz;rw[getElem?_zip_eq_some] at hi2;have h2:st[i]?=some (some z.1):=by rw[hf,getElem?_map,hi2.1];rfl
  obtain⟨p,hpm,e⟩:=c.of i _ h2;subst e;obtain⟨h3,h4⟩:=c.at_ p hpm;rw[h2] at h4;have e4:z.1=p.s:=Option.some.inj (Option.some.inj h4);rw[hi2.2] at h3;have e3:z.2=p.x:=Option.some.inj h3;rw[e3,e4];exact Y1 hpm
 ·have hne:Valayc.placed w ls o≠ []:=λz=>by
   have h1:=hp.length_eq;rw[<-hi,z] at h1;simp at h1;lia
  obtain⟨p,hpm,e⟩:=qT hne;rw[e];exact hle _ (at_ss p hpm)
def wo(l:List Nat)(i:Nat):List Nat:=l.filter λj=>j !=i
theorem dP{l:List Nat}(nd:l.Nodup){i:Nat}(h:i∈l):(wo l i).length+1=l.length:=by
 have:wo l i=l.erase i:=by unfold wo;rw[nd.erase_eq_filter]
 rw[this,List.length_erase_of_mem h];have:=List.length_pos_of_mem h
 lia
theorem fX{l:List Nat}(nd:l.Nodup)(i:Nat):(wo l i).Nodup:=nd.filter _
theorem lJ{l:List Nat}(nd:l.Nodup){i:Nat}(h:i∈l):l.Perm (i::wo l i):=by
 have:wo l i=l.erase i:=by unfold wo;rw[nd.erase_eq_filter]
 rw[this];exact List.perm_cons_erase h
theorem pJ{l:List Nat}{i j:Nat}:j∈wo l i↔j∈l/\j≠i:=by unfold wo;rw[mem_filter,bne_iff_ne]
theorem rV{f:Nat}{l:List Nat}(h:l≠ []):ordersBy (f+1) l=l.flatMap λi=>(ordersBy f (wo l i)).map λr=>i::r:=by show (if l.isEmpty=true then _ else _)=_;rw[if_neg (by simpa using h)];rfl
theorem vg{f:Nat}:ordersBy f []=[[]]:=by cases f<;>rfl
theorem YB:∀(f:Nat) (l:List Nat),l.length=f->l.Nodup->∀o∈ordersBy f l,o.Perm l
 | 0,l,h,_,o,ho=>by
  have:l=[]:=eq_nil_of_length_eq_zero h;subst this;have:o=[]:=by simpa[ordersBy] using ho
  subst this;exact .nil
 |f+1,l,h,nd,o,ho=>by rw[rV (by intro z;rw[z] at h;cases h)] at ho;obtain⟨i,hi,h2⟩:=mem_flatMap.mp ho;obtain⟨r,hr,rfl⟩:=mem_map.mp h2;have:=YB f (wo l i) (by have:=dP nd hi;lia) (fX nd i) r hr;exact(this.cons i).trans (lJ nd hi).symm
theorem lK:∀(f:Nat) (l:List Nat),l.length=f->l.Nodup->∃r,ordersBy f l=l::r
 | 0,l,h,_=>by have:l=[]:=eq_nil_of_length_eq_zero h;subst this;exact⟨[],rfl⟩
 |f+1,l,h,nd=>by
  cases l with
  |nil=>cases h
  |cons i t=>
   rw[rV (by simp)];have e:wo (i::t) i=t:=by have h2:i∉t:=(nodup_cons.mp nd).1;unfold wo;rw[filter_cons,if_neg (by simp)];exact List.filter_eq_self.mpr λj hj=>by rw[bne_iff_ne];exact λz=>h2 (z ▸ hj)
   obtain⟨r,hr⟩:=lK f t (by simpa using h) (nodup_cons.mp nd).2;rw[flatMap_cons,e,hr];exact⟨_,rfl⟩
def fact:Nat->Nat
 | 0=>1
 |n+1=>fact n * (n+1)
theorem cK{l:List Nat}{f:Nat->Nat}{c:Nat}(h:∀i∈l,f i=c):(l.map f).sum=l.length * c:=by
 induction l with
 |nil=>simp
 |cons i r ih=>rw[map_cons,sum_cons,length_cons,h i mem_cons_self,ih λj hj=>h j (mem_cons_of_mem _ hj),add_mul,one_mul,add_comm]
theorem pK:∀(f:Nat) (l:List Nat),l.length=f->l.Nodup->(ordersBy f l).length=fact f
 | 0,l,h,_=>rfl
 |f+1,l,h,nd=>by rw[rV (by intro z;rw[z] at h;cases h),List.length_flatMap];rw[cK (c:=fact f) λi hi=> ?_,h,mul_comm];rfl;rw[length_map];exact pK f (wo l i) (by have:=dP nd hi;lia) (fX nd i)
abbrev UY:=Option (Nat×List Nat)
def better(val:List Nat->Nat)(b:UY)(o:List Nat):UY:=match b with
 |none=>some (val o,o)
 |some x=>if val o<x.1 then some (val o,o) else some x
def scan(val:List Nat->Nat)(b:UY)(os:List (List Nat)):UY:=os.foldl (better val) b
theorem g9{val:List Nat->Nat}{b:UY}{x y:List (List Nat)}:scan val b (x++y)=scan val (scan val b x) y:=foldl_append
theorem ZJ{val:List Nat->Nat}{x:Nat×List Nat}{m:Nat}(hm:¬m<x.1):∀{os:List (List Nat)},(∀o∈os,m<=val o)->scan val (some x) os=some x
 | [],_=>rfl
 |o::r,h=>by
  show scan val (better val (some x) o) r=_;have h1:=h o mem_cons_self;have:better val (some x) o=some x:=by unfold better;dsimp only;rw[if_neg (by lia)]
  rw[this];exact ZJ hm λo ho=>h o (mem_cons_of_mem _ ho)
theorem U9{w:Nat}{ls:List Leaf}:scan (bitsOf w ls) none (Valayc.orders ls.length)=some (leastOf w ls):=by
 obtain⟨r,hr⟩:=lK ls.length (List.range ls.length) length_range nodup_range;have key:∀(os:List (List Nat)) (x:Nat×List Nat),scan (bitsOf w ls) (some x) os=some (os.foldl (λb o=>let n:=bitsOf w ls o;if n<b.1 then(n,o) else b) x):=by
  intro os;induction os with
  |nil=>intro x;rfl
  |cons o r ih=>intro x;show scan _ (better _ (some x) o) r=_;unfold better;rw[foldl_cons];dsimp only;split<;>exact ih _
 unfold leastOf Valayc.orders;rw[hr];show scan _ (some (bitsOf w ls (List.range ls.length),List.range ls.length)) r=_;rw[key,foldl_cons];dsimp only;rw[if_neg (Nat.lt_irrefl _)]
theorem gF{val:List Nat->Nat}:∀{os:List (List Nat)} {b:UY} {x:Nat×List Nat},scan val b os=some x->(∀y,b=some y->x.1<=y.1)/\(∀o∈os,x.1<=val o)/\(b=some x\/(x.2∈os/\x.1=val x.2))
 | [],b,x,h=>⟨λy e=>by rw[show b=some x from h] at e;cases e;exact Nat.le_refl _,λo ho=>(by cases ho),.inl h⟩
 |o::r,b,x,h=>by
  have h':scan val (better val b o) r=some x:=h;obtain⟨h1,h2,h3⟩:=gF h';cases b with
  |none=>
   have hb:better val none o=some (val o,o):=rfl;rw[hb] at h1 h3;refine⟨λy e=>(by cases e),λp hp=> ?_,.inr ?_⟩
   ·rcases mem_cons.mp hp with rfl | hp
    ·exact h1 _ rfl
    ·exact h2 p hp
   ·rcases h3 with e | ⟨e1,e2⟩
    ·cases e;exact⟨mem_cons_self,rfl⟩
    ·exact⟨mem_cons_of_mem _ e1,e2⟩
  |some y=>
   unfold better at h1 h3;dsimp only at h1 h3;split at h1
   ·rename_i hlt;rw[if_pos hlt] at h3;have hx:=h1 _ rfl;dsimp only at hx;refine⟨λz e=>by cases e;lia,λp hp=> ?_,.inr ?_⟩
    ·rcases mem_cons.mp hp with rfl | hp
     ·exact hx
     ·exact h2 p hp
    ·rcases h3 with e | ⟨e1,e2⟩
     ·cases e;exact⟨mem_cons_self,rfl⟩
     ·exact⟨mem_cons_of_mem _ e1,e2⟩
   ·rename_i hlt;rw[if_neg hlt] at h3;have hx:=h1 _ rfl;refine⟨λz e=>by cases e;exact hx,λp hp=> ?_,?_⟩
    ·rcases mem_cons.mp hp with rfl | hp
     ·lia
     ·exact h2 p hp
    ·rcases h3 with e | ⟨e1,e2⟩
     ·exact .inl e
     ·exact .inr ⟨mem_cons_of_mem _ e1,e2⟩
theorem QU{w:Nat}{ls:List Leaf}:(∀o∈Valayc.orders ls.length,(leastOf w ls).1<=bitsOf w ls o)/\(leastOf w ls).2∈Valayc.orders ls.length/\(leastOf w ls).1=bitsOf w ls (leastOf w ls).2:=by
 obtain⟨_,h2,h3⟩:=gF (U9 (w:=w) (ls:=ls));rcases h3 with h | h
 ·cases h
 ·exact⟨h2,h⟩
theorem hG{n:Nat}{o:List Nat}(h:o∈Valayc.orders n):o.Perm (List.range n):=YB n _ length_range nodup_range o h
theorem Ku{w:Nat}{ls:List Leaf}:(leastOf w ls).2.Perm (List.range ls.length):=hG QU.2.1
theorem cM{w:Nat}{ls:List Leaf}:∀(r o:List Nat),(∀i∈r,i<ls.length)->endOf (Valayc.placed w ls o)<=endOf (Valayc.placed w ls (o++r))
 | [],o,_=>by rw[append_nil];exact Nat.le_refl _
 |i::r,o,h=>by have h1:=ES (w:=w) (ls:=ls) (o:=o) (getElem?_eq_getElem (h i mem_cons_self));have h2:=cM (w:=w) r (o++ [i]) λj hj=>h j (mem_cons_of_mem _ hj);rw[append_assoc,List.singleton_append,h1,ZI] at h2;exact Nat.le_trans (le_max_left _ _) h2
def ED(o l:List Nat):List (List Nat):=(ordersBy l.length l).map λr=>o++r
theorem cN{o:List Nat}:ED o []=[o]:=by unfold ED;rw[vg];simp
theorem lL{o l:List Nat}(nd:l.Nodup)(h:l≠ []):ED o l=l.flatMap λi=>ED (o++ [i]) (wo l i):=by
 unfold ED;obtain⟨n,hn⟩:∃n,l.length=n+1:=⟨l.length - 1,by have:=List.length_pos_iff.mpr h;lia⟩;rw[hn,rV h,List.map_flatMap];have key:∀l':List Nat,(∀i∈l',i∈l)->(l'.flatMap λi=>((ordersBy n (wo l i)).map λr=>i::r).map λr=>o++r)=l'.flatMap λi=>(ordersBy (wo l i).length (wo l i)).map λr=>o++ [i]++r:=by
  intro l';induction l' with
  |nil=>intro _;rfl
  |cons i t ih=>intro hm;rw[flatMap_cons,flatMap_cons,ih λj hj=>hm j (mem_cons_of_mem _ hj)];congr 1;have e:=dP nd (hm i mem_cons_self);rw[show (wo l i).length=n by lia,map_map];refine map_congr_left λr _=> ?_;simp
 exact key l λi h=>h
theorem gG{w:Nat}{ls:List Leaf}{o l:List Nat}(nd:l.Nodup)(hl:∀i∈l,i<ls.length){c:List Nat}(hc:c∈ED o l):endOf (Valayc.placed w ls o)<=bitsOf w ls c:=by unfold ED at hc;obtain⟨r,hr,rfl⟩:=mem_map.mp hc;refine cM r o λi hi=>hl i ?_;exact(YB _ l rfl nd r hr).mem_iff.mp hi
theorem cO{val:List Nat->Nat}{f:Nat->List (List Nat)}:∀{l:List Nat} {b:UY},scan val b (l.flatMap f)=l.foldl (λb i=>scan val b (f i)) b
 | [],_=>rfl
 |i::r,b=>by rw[flatMap_cons,g9,cO,foldl_cons]
def cnt(w:Nat)(ls:List Leaf)(m:Nat)(o l:List Nat):Nat:=((ED o l).filter λc=>decide (bitsOf w ls c<=m)).length
theorem cnt_nil{w:Nat}{ls:List Leaf}{m:Nat}{o:List Nat}(h:endOf (Valayc.placed w ls o)<=m):cnt w ls m o []=1:=by unfold cnt;rw[cN,filter_cons,if_pos (by rw[decide_eq_true_eq];exact h)];rfl
theorem yC{w:Nat}{ls:List Leaf}{m:Nat}{o l:List Nat}(nd:l.Nodup)(h:l≠ []):cnt w ls m o l=(l.map λi=>cnt w ls m (o++ [i]) (wo l i)).sum:=by
 unfold cnt;rw[lL nd h];clear h;have key:∀l':List Nat,((l'.flatMap λi=>ED (o++ [i]) (wo l i)).filter λc=>decide (bitsOf w ls c<=m)).length=(l'.map λi=>((ED (o++ [i]) (wo l i)).filter λc=>decide (bitsOf w ls c<=m)).length).sum:=by
  intro l';induction l' with
  |nil=>rfl
  |cons i t ih=>rw[flatMap_cons,filter_append,length_append,ih,map_cons,sum_cons]
 exact key l
theorem cnt_none{w:Nat}{ls:List Leaf}{m:Nat}{o l:List Nat}(nd:l.Nodup)(hl:∀i∈l,i<ls.length)(h:¬endOf (Valayc.placed w ls o)<=m):cnt w ls m o l=0:=by unfold cnt;rw[List.length_eq_zero_iff,List.filter_eq_nil_iff];intro c hc z;have:=gG (w:=w) nd hl hc;rw[decide_eq_true_eq] at z;lia
theorem aS{w:Nat}{ls:List Leaf}:leastCount w ls=cnt w ls (leastOf w ls).1 [] (List.range ls.length):=by
 unfold leastCount cnt ED Valayc.orders;rw[length_range];have e:((ordersBy ls.length (List.range ls.length)).map λr=> []++r)=Valayc.orders ls.length:=by simp[Valayc.orders]
 rw[e];show ((Valayc.orders ls.length).filter λo=>bitsOf w ls o==(leastOf w ls).1).length=_;congr 1;refine List.filter_congr λo ho=> ?_;have:=(QU (w:=w) (ls:=ls)).1 o ho;rw[Bool.eq_iff_iff,beq_iff_eq,decide_eq_true_eq];lia
end Mt
namespace Mt
open Valaya (Leaf Ty Rec)
open Valayc (Placed)
open Valayb (Layout)
theorem Qg{α:Type}{R:α->α->Prop}:∀(l m:List α),(∀a b,a∈l->b∈l->R a b->R b a->a=b)->l.Perm m->l.Pairwise R->m.Pairwise R->l=m
 | [],m,_,p,_,_=>(List.Perm.eq_nil p.symm).symm ▸ rfl
 |a::l,[],_,p,_,_=>absurd p.length_eq (by simp)
 |a::l,b::m,anti,p,hl,hm=>by
  have e:a=b:=by
   rcases mem_cons.mp (p.mem_iff.mp (mem_cons_self:a∈a::l)) with z | z
   ·exact z
   rcases mem_cons.mp (p.symm.mem_iff.mp (mem_cons_self:b∈b::m)) with y | y
   ·exact y.symm
   exact anti a b mem_cons_self (mem_cons_of_mem _ y) ((pairwise_cons.mp hl).1 b y) ((pairwise_cons.mp hm).1 a z)
  subst e;rw[Qg l m (λx y hx hy=>anti x y (mem_cons_of_mem _ hx) (mem_cons_of_mem _ hy)) (List.Perm.cons_inv p) (pairwise_cons.mp hl).2 (pairwise_cons.mp hm).2]
structure Key where
 a:Nat
 n:Nat
 i:Nat
def keyOf(ls:List Leaf)(i:Nat):Key:=match ls[i]? with
 |some x=>⟨x.align,wd x,i⟩
 |none=>⟨0,0,i⟩
def aJ(p q:Key):Prop:=q.a<p.a\/(p.a=q.a/\(q.n<p.n\/(p.n=q.n/\p.i<q.i)))
theorem ZK{ls:List Leaf}{i j:Nat}(hi:i<ls.length)(hj:j<ls.length):before ls i j=true↔aJ (keyOf ls i) (keyOf ls j):=by unfold before keyOf aJ;rw[getElem?_eq_getElem hi,getElem?_eq_getElem hj];simp only[Bool.or_eq_true,Bool.and_eq_true,decide_eq_true_eq,beq_iff_eq]
theorem nA{p q r:Key}(h:aJ p q)(k:aJ q r):aJ p r:=by unfold aJ at *;lia
theorem nB{p q:Key}(h:aJ p q)(k:aJ q p):False:=by unfold aJ at *;lia
theorem cQ{p q:Key}(h:p.i≠q.i):aJ p q\/aJ q p:=by unfold aJ;lia
theorem kQ{ls:List Leaf}{i:Nat}:(keyOf ls i).i=i:=by unfold keyOf;split<;>rfl
theorem Qh{ls:List Leaf}{i:Nat}:∀{l:List Nat},(Valayc.insert ls i l).Perm (i::l)
 | []=> .refl _
 |j::r=>by
  unfold Valayc.insert;split
  ·exact .refl _
  ·exact(Qh.cons j).trans (.swap i j r)
theorem Sm{ls:List Leaf}{i:Nat}(hi:i<ls.length):∀{l:List Nat},(∀j∈l,j<ls.length)->i∉l->l.Pairwise (λa b=>aJ (keyOf ls a) (keyOf ls b))->(Valayc.insert ls i l).Pairwise λa b=>aJ (keyOf ls a) (keyOf ls b)
 | [],_,_,_=>by unfold Valayc.insert;exact List.pairwise_singleton _ _
 |j::r,hl,hn,hp=>by
  have hj:=hl j mem_cons_self;obtain⟨p1,p2⟩:=pairwise_cons.mp hp;unfold Valayc.insert;split
  ·rename_i h;have h1:=(ZK hi hj).mp h;refine pairwise_cons.mpr ⟨λk hk=> ?_,hp⟩;rcases mem_cons.mp hk with rfl | hk
   ·exact h1
   ·exact nA h1 (p1 k hk)
  ·rename_i h;have h1:aJ (keyOf ls j) (keyOf ls i):=by
    rcases cQ (p:=keyOf ls i) (q:=keyOf ls j) (by rw[kQ,kQ];intro z;exact hn (z ▸ mem_cons_self)) with z | z
    ·exact absurd ((ZK hi hj).mpr z) h
    ·exact z
   refine pairwise_cons.mpr ⟨λk hk=> ?_,Sm hi (λk hk=>hl k (mem_cons_of_mem _ hk)) (λz=>hn (mem_cons_of_mem _ z)) p2⟩;rcases mem_cons.mp (Qh.mem_iff.mp hk) with rfl | hk
   ·exact h1
   ·exact p1 k hk
theorem cR{ls:List Leaf}:∀(t acc:List Nat),(∀j∈t,j<ls.length)->(∀j∈acc,j<ls.length)->t.Nodup->(∀j∈t,j∉acc)->acc.Pairwise (λa b=>aJ (keyOf ls a) (keyOf ls b))->
  (t.foldl (λr i=>Valayc.insert ls i r) acc).Perm (acc++t)/\(t.foldl (λr i=>Valayc.insert ls i r) acc).Pairwise λa b=>aJ (keyOf ls a) (keyOf ls b)
 | [],acc,_,_,_,_,hp=>⟨by rw[append_nil];exact .refl _,hp⟩
 |i::t,acc,ht,ha,nd,hn,hp=>by
  have hi:=ht i mem_cons_self;obtain⟨n1,n2⟩:=nodup_cons.mp nd;have ip:(Valayc.insert ls i acc).Perm (i::acc):=Qh;obtain⟨h1,h2⟩:=cR t (Valayc.insert ls i acc) (λj hj=>ht j (mem_cons_of_mem _ hj)) (λj hj=>by
   rcases mem_cons.mp (ip.mem_iff.mp hj) with rfl | hj
   ·exact hi
   ·exact ha j hj) n2 (λj hj z=>by
   rcases mem_cons.mp (ip.mem_iff.mp z) with rfl | z
   ·exact n1 hj
   ·exact hn j (mem_cons_of_mem _ hj) z) (Sm hi ha (hn i mem_cons_self) hp)
  refine⟨h1.trans ?_,h2⟩;refine(ip.append_right t).trans ?_;exact List.perm_middle.symm
theorem YC{ls:List Leaf}:(ruleOrder ls).Perm (List.range ls.length)/\(ruleOrder ls).Pairwise λa b=>aJ (keyOf ls a) (keyOf ls b):=by have h:=cR (ls:=ls) (List.range ls.length) [] (λj hj=>mem_range.mp hj) (λj hj=>(by cases hj)) nodup_range (λj _ hj=>(by cases hj)) List.Pairwise.nil;rw[nil_append] at h;exact h
theorem nD{ls:List Leaf}{o:List Nat}(hp:o.Perm (List.range ls.length))(hs:o.Pairwise λa b=>¬aJ (keyOf ls b) (keyOf ls a)):o=ruleOrder ls:=by obtain⟨h1,h2⟩:=YC (ls:=ls);have nd:o.Nodup:=hp.nodup_iff.mpr nodup_range;refine Qg (R:=λa b=>aJ (keyOf ls a) (keyOf ls b)) o _ (λa b _ _ x y=>(nB x y).elim) (hp.trans h1.symm) ?_ h2;refine(List.Pairwise.and nd hs).imp λ{a b} ⟨n,h⟩=> ?_;exact(cQ (p:=keyOf ls a) (q:=keyOf ls b) (by rw[kQ,kQ];exact n)).resolve_right h
theorem lM:∀(a l:List Int),a.Nodup->(∀x∈a,x∈l)->l.length=a.length->l.Perm a
 | [],l,_,_,h=>by rw[eq_nil_of_length_eq_zero h]
 |x::a,l,nd,hs,h=>by have hx:=hs x mem_cons_self;obtain⟨n1,n2⟩:=nodup_cons.mp nd;have ih:=lM a (l.erase x) n2 (λy hy=>(List.mem_erase_of_ne (λz:y=x=>n1 (z ▸ hy))).mpr (hs y (mem_cons_of_mem _ hy))) (by rw[List.length_erase_of_mem hx,h];simp);exact(List.perm_cons_erase hx).trans (ih.cons x)
def AA(l:List Nat):List Int:=l.map λ(n:Nat)=>(n:Int)
theorem sR{n:Nat}:(AA (List.range n)).Nodup:=by unfold AA;exact List.Pairwise.map _ (λa b h z=>h (by lia)) nodup_range
theorem hJ{n:Nat}:(AA (List.range n)).Pairwise (·<= ·):=by unfold AA;exact List.Pairwise.map _ (λa b h=>by lia) (List.pairwise_lt_range (n:=n))
theorem qU{n:Nat}{l l':List Int}(hp:l'.Perm l)(he:l'=AA (List.range n)):readOrder n l=some (l.map λz=>z.toNat)/\(l.map λz=>z.toNat).Perm (List.range n)/\l=AA (l.map λz=>z.toNat):=by
 subst he;refine⟨?_,?_,?_⟩
 ·unfold readOrder;refine if_pos ⟨by rw[<-hp.length_eq];simp[AA],all_eq_true.mpr λi hi=> ?_⟩;rw[contains_iff_mem];exact hp.mem_iff.mp (mem_map.mpr ⟨i,hi,rfl⟩)
 ·have:=hp.symm.map λz:Int=>z.toNat;unfold AA at this;rw[map_map] at this;have e:(List.range n).map ((λz:Int=>z.toNat) ∘ λ(n:Nat)=>(n:Int))=List.range n:=by
   refine(map_congr_left λi _=> ?_).trans (map_id _);show ((i:Nat):Int).toNat=i
   lia
  rw[e] at this;exact this
 ·unfold AA;rw[map_map];refine(map_id l).symm.trans (map_congr_left λz hz=> ?_);obtain⟨i,_,rfl⟩:=mem_map.mp (hp.symm.mem_iff.mp hz);show (i:Int)=(((i:Nat):Int).toNat:Nat)
  lia
theorem sS{n:Nat}{l l':List Int}(hp:l'.Perm l)(hs:l'.Pairwise (·<= ·))(he:l'≠AA (List.range n)):readOrder n l=none:=by
 unfold readOrder;refine if_neg λ⟨h1,h2⟩=>he ?_;have h3:l.Perm (AA (List.range n)):=lM _ _ sR (λx hx=>by obtain⟨i,hi,rfl⟩:=mem_map.mp hx;exact contains_iff_mem.mp (all_eq_true.mp h2 i hi)) (by rw[h1];simp[AA])
 exact Qg _ _ (λa b _ _ x y=>by lia) (hp.trans h3) hs hJ
def Kt(ls:List Leaf)(size:Nat)(ss:List Nat)(i:Nat):Bool:=match ls[i]?,ss[i]? with
 |some x,some s=>decide (8 * size<s+wd x) || (decide (s % x.align≠0) || (Bj ls i).any λj=>match ls[j]?,ss[j]? with
  |some y,some u=>decide (s<u+wd y/\u<s+wd x)
  |_,_=>false)
 |_,_=>false
theorem nE{ls:List Leaf}{size:Nat}{ss:List Nat}(hl:ss.length=ls.length):Valayb.right ls ⟨size,ss⟩= !((List.range ls.length).any (Kt ls size ss)):=by
 rw[Bool.eq_iff_iff];unfold Valayb.right Valayb.faultOf;simp only[Bool.and_eq_true,beq_iff_eq,hl,true_and,Option.isNone_iff_eq_none,List.findSome?_eq_none_iff,Bool.not_eq_true',List.any_eq_false];have st:∀i,i<ls.length->∃s,ss[i]?=some s/\startOf_ ⟨size,ss⟩ i=s:=λi hi=>by refine⟨ss[i]'(by lia),getElem?_eq_getElem _,?_⟩;unfold startOf_;rw[getElem?_eq_getElem (by rw[hl];exact hi)];rfl
 constructor
 ·intro h i hi hf;have hi:=mem_range.mp hi;have all:∀k (hk:k<ls.length),wrongAt ls ⟨size,ss⟩ k (ls[k])=none:=λk hk=>by
   have:=h (ls[k],k) (List.mem_zipIdx_iff_getElem?.mpr (by simp[getElem?_eq_getElem hk]));simpa using this
  obtain⟨s,e1,e2⟩:=st i hi;unfold Kt at hf;rw[getElem?_eq_getElem hi,e1] at hf;dsimp only at hf;have w0:=all i hi;unfold wrongAt at w0;rw[e2] at w0;dsimp only at w0;split at w0
  ·cases w0
  rename_i n1;split at w0
  ·cases w0
  rename_i n2;have n1:¬(8 * size<s+wd ls[i]):=n1;rw[Bool.or_eq_true,Bool.or_eq_true,decide_eq_true_eq,decide_eq_true_eq] at hf;rcases hf with z | z | z
  ·exact n1 z
  ·exact n2 z
  ·obtain⟨j,hj,hz⟩:=any_eq_true.mp z;obtain⟨jn,y,ey,ap⟩:=(Oa (getElem?_eq_getElem hi)).mp hj;have jl:=(List.getElem?_eq_some_iff.mp ey).1;obtain⟨u,u1,u2⟩:=st j jl;rw[ey,u1] at hz;dsimp only at hz;rw[decide_eq_true_eq] at hz;rcases Nat.lt_or_gt_of_ne jn with lt | gt
   ·have:=find?_eq_none.mp (map_eq_none_iff.mp w0) j (mem_range.mpr lt);rw[ey] at this;dsimp only at this;rw[u2,ap] at this;simp only[Bool.not_false,Bool.true_and,overlap,decide_eq_true_eq] at this;exact this hz
   ·have w1:=all j jl;unfold wrongAt at w1;rw[u2] at w1;dsimp only at w1;split at w1
    ·cases w1
    split at w1
    ·cases w1
    have:=find?_eq_none.mp (map_eq_none_iff.mp w1) i (mem_range.mpr gt);rw[getElem?_eq_getElem hi] at this;dsimp only at this;rw[e2] at this;have ey2:ls[j]=y:=by have:=ey;rw[getElem?_eq_getElem jl] at this;exact Option.some.inj this
    rw[ey2,OZ,ap] at this;simp only[Bool.not_false,Bool.true_and,overlap,decide_eq_true_eq] at this;exact this ⟨hz.2,hz.1⟩
 ·intro h x hx;rw[map_eq_none_iff];obtain⟨x,i⟩:=x;have ex:ls[i]?=some x:=by simpa using List.mem_zipIdx_iff_getElem?.mp hx
  have hi:=(List.getElem?_eq_some_iff.mp ex).1;have hf:=h i (mem_range.mpr hi);obtain⟨s,e1,e2⟩:=st i hi;unfold Kt at hf;rw[ex,e1] at hf;dsimp only at hf;rw[Bool.or_eq_true,Bool.or_eq_true,decide_eq_true_eq,decide_eq_true_eq] at hf;unfold wrongAt;dsimp only;rw[e2,if_neg (λz=>hf (.inl z)),if_neg (λz=>hf (.inr (.inl z))),map_eq_none_iff,find?_eq_none];intro j hj z;have hj:=mem_range.mp hj;have jl:j<ls.length:=by lia
  obtain⟨u,u1,u2⟩:=st j jl;rw[getElem?_eq_getElem jl] at z;dsimp only at z;rw[u2] at z;simp only[Bool.and_eq_true,Bool.not_eq_true',overlap,decide_eq_true_eq] at z;refine hf (.inr (.inr (any_eq_true.mpr ⟨j,(Oa ex).mpr ⟨by lia,_,getElem?_eq_getElem jl,z.1⟩,?_⟩)));rw[getElem?_eq_getElem jl,u1];exact decide_eq_true z.2
theorem nF{ls:List Leaf}{size:Nat}{ss:List Nat}(hl:ss.length=ls.length)(hpos:1<=ls.length){m:Nat}(hm:m∈ends ls ss)(hle:∀y∈ends ls ss,y<=m):m=spanOf ls ⟨size,ss⟩:=by
 unfold spanOf;dsimp only;have key:∀y,y∈((ls.zip ss).map λx=>x.2+width x.1)↔y∈ends ls ss:=λy=>by
  unfold ends;rw[mem_map,mem_map];constructor
  ·rintro⟨⟨a,b⟩,h,rfl⟩;obtain⟨i,hi⟩:=getElem?_of_mem h;rw[getElem?_zip_eq_some] at hi;exact⟨(b,a),mem_of_getElem? (i:=i) (getElem?_zip_eq_some.mpr ⟨hi.2,hi.1⟩),rfl⟩
  ·rintro⟨⟨a,b⟩,h,rfl⟩;obtain⟨i,hi⟩:=getElem?_of_mem h;rw[getElem?_zip_eq_some] at hi;exact⟨(b,a),mem_of_getElem? (i:=i) (getElem?_zip_eq_some.mpr ⟨hi.2,hi.1⟩),rfl⟩
 obtain⟨h1,h2,h3⟩:=foldl_max (l:=(ls.zip ss).map λx=>x.2+width x.1) (a:=0);apply Nat.le_antisymm
 ·exact h2 m ((key m).mpr hm)
 ·rcases h3 with z | z
  ·rw[z];exact zero_le _
  ·exact hle _ ((key _).mp z)
theorem cS{w:Nat}{ls:List Leaf}{ss:List Nat}:((ls.zip ss).all λx=> !crosses w x.2 (width x.1))= !((ss.zip ls).map λz=>crosses w z.1 (wd z.2)).any id:=by
 induction ls generalizing ss with
 |nil=>cases ss<;>rfl
 |cons x r ih=>
  cases ss with
  |nil=>rfl
  |cons s t=>rw[List.zip_cons_cons,List.zip_cons_cons,all_cons,map_cons,any_cons,ih,Bool.not_or];rfl
end Mt
namespace Mt
open Valaya (Leaf Ty Rec)
open Valayc (Placed)
theorem gH{α:Type}{f:Nat->List α}{c:Nat}:∀n:Nat,(∀i,(f i).length=c)->((List.range n).flatMap f).length=n * c:=by intro n h;rw[List.length_flatMap,cK (c:=c) λi _=>h i,length_range]
theorem Dd:∀(t:Ty) (k:Nat) (x:ValayBase.Bytes) (h:Nat) (g:List (Nat×Nat)) (alt:Option (Nat×Nat)),(leavesBy t k x h g alt).length=countLeaves t:=by
 intro t;induction t with
 |num a b c=>intros;rfl
 |maybe t ih=>intros;simp only[leavesBy,length_cons,ih,countLeaves];lia
 |many n t ih=>intros;simp only[leavesBy,countLeaves];exact gH n λi=>ih ..
 |rec_ fs ih=>intros;simp only[leavesBy,countLeaves];exact ih ..
 |named x t ih=>intros;simp only[leavesBy,countLeaves];exact ih ..
 |one_ fs ih=>intros;simp only[leavesBy,length_cons,ih,countLeaves];lia
 |nil=>intros;rfl
 |field y f t r ih1 ih2=>intro k x h g alt;cases alt<;>simp only[leavesBy,length_append,ih1,ih2,countLeaves]
theorem vh{x:ValayBase.Bytes}{a b:Int}{c h:Nat}{g:List (Nat×Nat)}:wd ⟨x,a,b,c,h,0,g⟩=bitsFor (b - a+1).toNat:=rfl
theorem pM{x:ValayBase.Bytes}{h:Nat}{g:List (Nat×Nat)}:wd ⟨x,0,1,1,h,1,g⟩=1:=by show bitsFor ((1:Int) - 0+1).toNat=1;decide+kernel
theorem pN{x:ValayBase.Bytes}{n h:Nat}{g:List (Nat×Nat)}:wd ⟨x,0,(n:Int) - 1,1,h,2,g⟩=bitsFor n:=by show bitsFor ((n:Int) - 1 - 0+1).toNat=_;congr 1;lia
theorem pick:∀(t:Ty) (k:Nat) (x:ValayBase.Bytes) (h:Nat) (g:List (Nat×Nat)) (alt:Option (Nat×Nat)) (f0:Nat->Nat),(∀p∈g,p.1<k/\p.2=f0 p.1)->(∀a,alt=some a->a.1<k/\∀p∈g,p.1≠a.1)->
  ∃(S:List Leaf) (f:Nat->Nat),S.Sublist (leavesBy t k x h g alt)/\(∀n,n<k->(∀a,alt=some a->n≠a.1)->f n=f0 n)/\(∀y∈S,∀p∈y.guards,p.1<k+countLeaves t/\p.2=f p.1)/\(S.map wd).sum=sharedBits t alt.isSome:=by
 intro t;induction t with
 |num a b c=>
  intro k x h g alt f0 hg ha;refine⟨_,f0,List.Sublist.refl _,λ_ _ _=>rfl,λy hy p hp=> ?_,?_⟩
  ·simp only[leavesBy] at hy;cases mem_singleton.mp hy;have:=hg p hp;exact⟨by have:=this.1;lia,this.2⟩
  ·simp only[leavesBy,map_cons,map_nil,sum_cons,List.sum_nil,vh,sharedBits];lia
 |maybe t ih=>
  intro k x h g alt f0 hg ha;obtain⟨S,f,s1,s2,s3,s4⟩:=ih (k+1) (dotted x (ValayBase.word "some")) h (g++ [(k,1)]) none (λn=>if n=k then 1 else f0 n) (λp hp=>by
   rcases mem_append.mp hp with hp | hp
   ·have:=hg p hp;refine⟨by lia,?_⟩;rw[if_neg (by lia)];exact this.2
   ·cases mem_singleton.mp hp;exact⟨lt_succ_self _,by simp⟩) (λa z=>(by cases z))
  refine⟨_::S,f,s1.cons_cons _,λn hn _=> ?_,λy hy p hp=> ?_,?_⟩
  ·rw[s2 n (by lia) (λa z=>(by cases z)),if_neg (by lia)]
  ·rcases mem_cons.mp hy with rfl | hy
   ·have:=hg p hp;refine⟨by lia,?_⟩;rw[s2 p.1 (by lia) (λa z=>(by cases z)),if_neg (by lia)];exact this.2
   ·have:=s3 y hy p hp;simp only[countLeaves];exact⟨by lia,this.2⟩
  ·simp only[map_cons,sum_cons,s4,pM,sharedBits];rfl
 |many n t ih=>
  intro k x h g alt f0 hg ha;have key:∀m,∃(S:List Leaf) (f:Nat->Nat),S.Sublist ((List.range m).flatMap λi=>leavesBy t (k+i * countLeaves t) (dotted x (showNat i)) h g none)/\(∀n,n<k->f n=f0 n)/\
    (∀y∈S,∀p∈y.guards,p.1<k+m * countLeaves t/\p.2=f p.1)/\(S.map wd).sum=m * sharedBits t false:=by
   intro m;induction m with
   |zero=>exact⟨[],f0,List.Sublist.refl _,λ_ _=>rfl,λy hy=>(by cases hy),by simp⟩
   |succ m im=>
    obtain⟨S,f,s1,s2,s3,s4⟩:=im;obtain⟨S',f',r1,r2,r3,r4⟩:=ih (k+m * countLeaves t) (dotted x (showNat m)) h g none f (λp hp=>by have:=hg p hp;exact⟨by lia,by rw[s2 p.1 this.1];exact this.2⟩) (λa z=>(by cases z))
    refine⟨S++S',f',?_,λn hn=> ?_,λy hy p hp=> ?_,?_⟩
    ·rw[range_succ,List.flatMap_append];refine s1.append ?_;rw[flatMap_cons,List.flatMap_nil,append_nil];exact r1
    ·rw[r2 n (by lia) (λa z=>(by cases z)),s2 n hn]
    ·rw[add_mul,one_mul];rcases mem_append.mp hy with hy | hy
     ·have:=s3 y hy p hp;exact⟨by lia,by rw[r2 p.1 this.1 (λa z=>(by cases z))];exact this.2⟩
     ·have:=r3 y hy p hp;exact⟨by lia,this.2⟩
    ·rw[map_append,sum_append,s4,r4,add_mul,one_mul];rfl
  obtain⟨S,f,s1,s2,s3,s4⟩:=key n;exact⟨S,f,s1,λn hn _=>s2 n hn,s3,s4⟩
 |rec_ fs ih=>intro k x h g alt f0 hg ha;obtain⟨S,f,s1,s2,s3,s4⟩:=ih k x h g none f0 hg (λa z=>(by cases z));exact⟨S,f,s1,λn hn _=>s2 n hn (λa z=>(by cases z)),s3,s4⟩
 |named y t ih=>intro k x h g alt f0 hg ha;obtain⟨S,f,s1,s2,s3,s4⟩:=ih k x h g none f0 hg (λa z=>(by cases z));exact⟨S,f,s1,λn hn _=>s2 n hn (λa z=>(by cases z)),s3,s4⟩
 |one_ fs ih=>
  intro k x h g alt f0 hg ha;obtain⟨S,f,s1,s2,s3,s4⟩:=ih (k+1) x h g (some (k,0)) f0 (λp hp=>by have:=hg p hp;exact⟨by lia,this.2⟩) (λa z=>by cases z;exact⟨lt_succ_self _,λp hp=>by have:=(hg p hp).1;dsimp only;lia⟩);have below:∀n,n<k->f n=f0 n:=λn hn=>s2 n (by lia) (λa z=>by cases z;dsimp only;lia);refine⟨_::S,f,s1.cons_cons _,λn hn _=>below n hn,λy hy p hp=> ?_,?_⟩
  ·rcases mem_cons.mp hy with rfl | hy
   ·have:=hg p hp;exact⟨by lia,by rw[below p.1 this.1];exact this.2⟩
   ·have:=s3 y hy p hp;simp only[countLeaves];exact⟨by lia,this.2⟩
  ·simp only[map_cons,sum_cons,s4,pN,sharedBits];rfl
 |nil=>intro k x h g alt f0 hg ha;exact⟨[],f0,List.Sublist.refl _,λ_ _ _=>rfl,λy hy=>(by cases hy),rfl⟩
 |field y fh t r ih1 ih2=>
  intro k x h g alt f0 hg ha;cases alt with
  |none=>
   obtain⟨S,f,s1,s2,s3,s4⟩:=ih1 k (dotted x y.name) (h * fh) g none f0 hg (λa z=>(by cases z));obtain⟨S',f',r1,r2,r3,r4⟩:=ih2 (k+countLeaves t) x h g none f (λp hp=>by have:=hg p hp;exact⟨by lia,by rw[s2 p.1 this.1 (λa z=>(by cases z))];exact this.2⟩) (λa z=>(by cases z))
   refine⟨S++S',f',s1.append r1,λn hn _=> ?_,λz hz p hp=> ?_,?_⟩
   ·rw[r2 n (by lia) (λa z=>(by cases z)),s2 n hn (λa z=>(by cases z))]
   ·simp only[countLeaves];rcases mem_append.mp hz with hz | hz
    ·have:=s3 z hz p hp;exact⟨by lia,by rw[r2 p.1 this.1 (λa z=>(by cases z))];exact this.2⟩
    ·have:=r3 z hz p hp;exact⟨by lia,this.2⟩
   ·rw[map_append,sum_append,s4,r4];rfl
  |some a=>
   obtain⟨a1,a2⟩:=ha a rfl;by_cases hm:sharedBits r true<=sharedBits t false
   ·obtain⟨S,f,s1,s2,s3,s4⟩:=ih1 k (dotted x y.name) (h * fh) (g++ [a]) none (λn=>if n=a.1 then a.2 else f0 n) (λp hp=>by
     rcases mem_append.mp hp with hp | hp
     ·have:=hg p hp;refine⟨this.1,?_⟩;rw[if_neg (a2 p hp)];exact this.2
     ·cases mem_singleton.mp hp;exact⟨a1,by simp⟩) (λa z=>(by cases z))
    refine⟨S,f,s1.trans (List.sublist_append_left _ _),λn hn hne=> ?_,λz hz p hp=> ?_,?_⟩
    ·rw[s2 n hn (λa z=>(by cases z)),if_neg (hne a rfl)]
    ·have:=s3 z hz p hp;simp only[countLeaves];exact⟨by lia,this.2⟩
    ·rw[s4];show _=Nat.max _ _;exact(max_eq_left hm).symm
   ·obtain⟨S,f,s1,s2,s3,s4⟩:=ih2 (k+countLeaves t) x h g (some (a.1,a.2+1)) f0 (λp hp=>by have:=hg p hp;exact⟨by lia,this.2⟩) (λb z=>by cases z;exact⟨by dsimp only;lia,a2⟩);refine⟨S,f,s1.trans (List.sublist_append_right _ _),λn hn hne=> ?_,λz hz p hp=> ?_,?_⟩
    ·exact s2 n (by lia) (λb z=>by cases z;exact hne a rfl)
    ·have:=s3 z hz p hp;simp only[countLeaves];exact⟨by lia,this.2⟩
    ·rw[s4];show _=Nat.max _ _;exact(max_eq_right (Nat.le_of_lt (Nat.lt_of_not_le hm))).symm
def rF(p q:Nat×Nat):Prop:=¬(p.1<q.1+q.2/\q.1<p.1+p.2)
theorem rF.symm{p q:Nat×Nat}(h:rF p q):rF q p:=λz=>h ⟨z.2,z.1⟩
theorem lN:∀{l:List (Nat×Nat)},l≠ []->∃p∈l,∀q∈l,q.1+q.2<=p.1+p.2
 | [],h=>absurd rfl h
 | [p],_=>⟨p,mem_cons_self,λq hq=>by cases mem_singleton.mp hq;exact Nat.le_refl _⟩
 |p::q::r,_=>by
  obtain⟨m,hm,h⟩:=lN (l:=q::r) (by simp);by_cases z:m.1+m.2<=p.1+p.2
  ·refine⟨p,mem_cons_self,λu hu=> ?_⟩;rcases mem_cons.mp hu with rfl | hu
   ·exact Nat.le_refl _
   ·exact Nat.le_trans (h u hu) z
  ·refine⟨m,mem_cons_of_mem _ hm,λu hu=> ?_⟩;rcases mem_cons.mp hu with rfl | hu
   ·lia
   ·exact h u hu
theorem packed:∀(n:Nat) (l:List (Nat×Nat)) (E:Nat),l.length=n->(∀p∈l,1<=p.2/\p.1+p.2<=E)->l.Pairwise rF->(l.map (·.2)).sum<=E
 | 0,l,E,h,_,_=>by rw[eq_nil_of_length_eq_zero h];exact zero_le _
 |n+1,l,E,h,hE,hd=>by
  obtain⟨p,hp,hmax⟩:=lN (l:=l) (λz=>by rw[z] at h;cases h);have pm:=List.perm_cons_erase hp;have hd2:(p::l.erase p).Pairwise rF:=(pm.pairwise_iff λ{a b} h=>rF.symm h).mp hd;obtain⟨d1,d2⟩:=pairwise_cons.mp hd2;have ih:=packed n (l.erase p) p.1 (by rw[List.length_erase_of_mem hp,h];rfl) (λq hq=>by have q1:=hE q (List.mem_of_mem_erase hq);have q2:=hmax q (List.mem_of_mem_erase hq);have q3:=d1 q hq;unfold rF at q3;have:=hE p hp;exact⟨q1.1,by lia⟩) d2
  have e:=(pm.map (·.2)).sum_nat;rw[e,map_cons,sum_cons];have:=hE p hp
  lia
theorem Im{w:Nat}{ls:List Leaf}:∀(o:List Nat),o.Nodup->(∀i∈o,i<ls.length)->∃st,Hr ls (Valayc.placed w ls o) st:=by
 intro o;have:∀r o:List Nat,r.reverse=o->o.Nodup->(∀i∈o,i<ls.length)->∃st,Hr ls (Valayc.placed w ls o) st:=by
  intro r;induction r with
  |nil=>intro o h _ _;subst h;exact⟨_,Hr.nil ls⟩
  |cons i r ih=>
   intro o h nd hi;subst h;rw[reverse_cons] at nd hi ⊢;have hlt:=hi i (by simp);rw[nodup_append] at nd;have hi2:∀j∈r.reverse,j<ls.length:=λj hj=>hi j (mem_append.mpr (.inl hj));obtain⟨st,c⟩:=ih _ rfl nd.1 hi2;rw[ES (getElem?_eq_getElem hlt)];refine⟨_,c.put (getElem?_eq_getElem hlt) ?_⟩;have hl:i<st.length:=by rw[c.len];exact hlt
   rw[getElem?_eq_getElem hl];cases e:st[i] with
   |none=>rfl
   |some b=>exfalso;obtain⟨p,hp,ep⟩:=c.of i b (by rw[getElem?_eq_getElem hl,e]);have:i∈(Valayc.placed w ls r.reverse).map (·.i):=mem_map.mpr ⟨p,hp,ep⟩;rw[QT hi2] at this;exact nd.2.2 i this i (by simp) rfl
 exact this o.reverse o (List.reverse_reverse o)
theorem je{w:Nat}{ls:List Leaf}(ok:QB ls)(hw:D4 w):∀(o:List Nat),o.Nodup->(∀i∈o,i<ls.length)->(Valayc.placed w ls o).Pairwise λp q=>apart p.x q.x=false->rF (p.s,wd p.x) (q.s,wd q.x):=by
 intro o;have:∀r o:List Nat,r.reverse=o->o.Nodup->(∀i∈o,i<ls.length)->(Valayc.placed w ls o).Pairwise λp q=>apart p.x q.x=false->rF (p.s,wd p.x) (q.s,wd q.x):=by
  intro r;induction r with
  |nil=>intro o h _ _;subst h;exact List.Pairwise.nil
  |cons i r ih=>intro o h nd hi;subst h;rw[reverse_cons] at nd hi ⊢;have hlt:=hi i (by simp);rw[nodup_append] at nd;have hi2:∀j∈r.reverse,j<ls.length:=λj hj=>hi j (mem_append.mpr (.inl hj));obtain⟨st,c⟩:=Im (w:=w) (ls:=ls) _ nd.1 hi2;rw[ES (getElem?_eq_getElem hlt),List.pairwise_append];refine⟨ih _ rfl nd.1 hi2,List.pairwise_singleton _ _,λp hp q hq=> ?_⟩;cases mem_singleton.mp hq;intro ap;have h1:=(W3 (w:=w) (ps:=Valayc.placed w ls r.reverse) (x:=ls[i]) hw (ok.al _ (List.getElem_mem hlt)) (by have:=c.Hf;have:=ok.Hf;lia)).1;have h2:=h1.2.2 _ (QS.mpr ⟨p,hp,ap,rfl⟩);exact λz=>h2 ⟨z.2,z.1⟩
 exact this o.reverse o (List.reverse_reverse o)
theorem qV{f:Nat->Nat}{x y:Leaf}(hx:∀p∈x.guards,p.2=f p.1)(hy:∀p∈y.guards,p.2=f p.1):apart x y=false:=by
 cases h:apart x y with
 |false=>rfl
 |true=>unfold apart at h;obtain⟨p,hp,h2⟩:=any_eq_true.mp h;obtain⟨q,hq,h3⟩:=any_eq_true.mp h2;rw[Bool.and_eq_true,beq_iff_eq,bne_iff_ne] at h3;exact absurd (by rw[hx p hp,hy q hq,h3.1]) h3.2
theorem qW{w:Nat}{t:Ty}{o:List Nat}(ok:QB (leavesOf t))(hw:D4 w)(hp:o.Perm (List.range (leavesOf t).length)):Valayc.bound t<=bitsOf w (leavesOf t) o:=by
 obtain⟨S,f,s1,_,s3,s4⟩:=pick t 0 [] 1 [] none (λ_=>0) (λp hp=>(by cases hp)) (λa z=>(by cases z));have s1:S.Sublist (leavesOf t):=s1;generalize hls:leavesOf t=ls at *;have hlt:∀i∈o,i<ls.length:=λi h=>mem_range.mp (hp.mem_iff.mp h);have nd:o.Nodup:=hp.nodup_iff.mpr nodup_range;obtain⟨st,c⟩:=Im (w:=w) (ls:=ls) o nd hlt;have dis:=je ok hw o nd hlt;have hi:=QT (w:=w) (ls:=ls) hlt;obtain⟨is,e1,e2⟩:=List.sublist_eq_map_getElem s1;have at_:∀i:Fin ls.length,∃p∈Valayc.placed w ls o,p.i=i.val/\p.x=ls[i]:=λi=>by
  have:i.val∈(Valayc.placed w ls o).map (·.i):=by rw[hi];exact hp.mem_iff.mpr (mem_range.mpr i.isLt)
  obtain⟨p,h1,h2⟩:=mem_map.mp this;refine⟨p,h1,h2,?_⟩;have h3:=(c.at_ p h1).1;rw[h2,getElem?_eq_getElem i.isLt] at h3;exact(Option.some.inj h3).symm
 let pl:Fin ls.length->Placed:=λi=>(at_ i).choose;have pl1:∀i,pl i∈Valayc.placed w ls o/\(pl i).i=i.val/\(pl i).x=ls[i]:=λi=>(at_ i).choose_spec;have sum:Valayc.bound t=((is.map λi=>((pl i).s,wd (pl i).x)).map (·.2)).sum:=by show sharedBits t false=_;rw[<-show (S.map wd).sum=sharedBits t false from s4,e1,map_map,map_map];congr 1;refine map_congr_left λi _=> ?_;show wd ls[i]=wd (pl i).x;rw[(pl1 i).2.2]
 rw[sum];refine packed _ _ _ rfl (λp hp=> ?_) ?_
 ·obtain⟨i,_,rfl⟩:=mem_map.mp hp;exact⟨QJ _,Y1 (pl1 i).1⟩
 ·refine List.Pairwise.map _ (R:=λi j=>rF ((pl i).s,wd (pl i).x) ((pl j).s,wd (pl j).x)) (λ_ _ h=>h) ?_;have mem:∀i∈is,ls[i]∈S:=λi h=>by rw[e1];exact mem_map.mpr ⟨i,h,rfl⟩
  refine e2.imp_of_mem λ{i j} hi' hj' lt=> ?_;have ap:apart (pl i).x (pl j).x=false:=by rw[(pl1 i).2.2,(pl1 j).2.2];exact qV (λp hp=>(s3 _ (mem i hi') p hp).2) (λp hp=>(s3 _ (mem j hj') p hp).2)
  have ne:pl i≠pl j:=λz=>by
   have h1:=(pl1 i).2.1;rw[z,(pl1 j).2.1] at h1;have:i.val<j.val:=lt
   lia
  obtain⟨a,ha⟩:=List.getElem_of_mem (pl1 i).1;obtain⟨b,hb⟩:=List.getElem_of_mem (pl1 j).1;obtain⟨ha1,ha2⟩:=ha;obtain⟨hb1,hb2⟩:=hb;have pw:=List.pairwise_iff_getElem.mp dis;rcases Nat.lt_trichotomy a b with z | z | z
  ·have:=pw a b ha1 hb1 z;rw[ha2,hb2] at this;exact this ap
  ·subst z;exact absurd (ha2.symm.trans hb2) ne
  ·have:=pw b a hb1 ha1 z;rw[ha2,hb2] at this;exact(this (by rw[OZ];exact ap)).symm
end Mt
namespace Mt
open ValayBase (PTok Toks PName Bytes)
open Valaya (Leaf Ty Rec)
def wf:Ty->Nat->Prop
 | .num lo hi al,n=>1<=n/\lo<=hi/\ -1000000<=lo/\hi<=1000000/\Ki al
 | .maybe t,n=>1<=n/\wf t (n - 1)
 | .many k t,n=>1<=n/\1<=k/\k<=8/\wf t (n - 1)
 | .one_ fs,n=>1<=n/\2<=rowLength fs/\rowLength fs<=4/\wf fs (n - 1)
 | .named x t,n=>1<=n/\x.length<=16/\(1<=countLeaves t/\countLeaves t<=24)/\wf t 6
 | .rec_ fs,_=>1<=rowLength fs/\wf fs 6
 | .nil,_=>True
 | .field x h t r,n=>x.name.length<=16/\h<=1000/\1<=countLeaves t/\wf t n/\wf r n
def dep:Ty->Nat
 | .num _ _ _=>1
 | .maybe t=>dep t+1
 | .many _ t=>dep t+1
 | .one_ fs=>dep fs+1
 | .named _ t=>dep t+1
 | .rec_ fs=>dep fs+1
 | .nil=>0
 | .field _ _ t r=>Nat.max (dep t) (dep r)
structure YS(D:Nat)(r:Rec):Prop where
 nm:r.x.name.length<=16
 ok:wf r.t 6
 Hf:countLeaves r.t<=24
 pos:1<=countLeaves r.t
 dp:dep r.t<=D
 rc:∃fs,r.t= .rec_ fs
def Gh(l:Toks):Prop:=∀x∈l,∀b,x.tok= .name b->b.length<=16
theorem Gh.drop{l:Toks}(h:Gh l)(k:Nat):Gh (l.drop k):=λx hx=>h x (List.mem_of_mem_drop hx)
theorem Gh.tail{l:Toks}{x:PTok}(h:Gh (x::l)):Gh l:=λy hy=>h y (mem_cons_of_mem _ hy)
section
variable{β:Type}
theorem Aw{α:Type}{r:Except Fault α}{f:α->Except Fault β}{b:β}(h:r.bind f= .ok b):∃a,r= .ok a/\f a= .ok b:=by
 cases r with
 |error e=>cases h
 |ok a=>exact⟨a,rfl,h⟩
theorem Mf{α:Type}{r:Except Fault α}{f:α->β}{b:β}(h:r.map f= .ok b):∃a,r= .ok a/\f a=b:=by
 cases r with
 |error e=>cases h
 |ok a=>cases h;exact⟨a,rfl,rfl⟩
end
theorem FZ{k:ValayBase.Tok}{l r:Toks}(h:taken k l= .ok r)(n:Gh l):Gh r:=by
 unfold taken at h;split at h
 ·cases h;exact n.drop 1
 ·cases h
theorem Uj{l r:Toks}{x:PName}(h:takeName l= .ok (x,r))(n:Gh l):Gh r/\x.name.length<=16:=by
 unfold takeName at h;split at h
 ·split at h
  ·cases h
  ·cases h;exact⟨n.tail,n _ mem_cons_self _ rfl⟩
 ·cases h
theorem pO{l r:Toks}{v:Int}{p:Nat}(h:takeInt l= .ok (v,p,r))(n:Gh l):Gh r/\ -1000000<=v/\v<=1000000:=by
 unfold takeInt at h;dsimp only at h;have n2:Gh (if ValayBase.next (.sign 45) l=true then l.drop 1 else l):=by split;exact n.drop 1;exact n
 split at h
 ·rename_i q m r' e;rw[e] at n2;split at h
  ·cases h
  ·rename_i hl;have hl:m<=1000000:=le_of_not_lt hl;cases h;refine⟨n2.tail,?_⟩;split<;>lia
 ·cases h
theorem gI{a b k:Nat}{l r:Toks}(h:takeCount a b l= .ok (k,r))(n:Gh l):Gh r/\a<=k/\k<=b:=by
 unfold takeCount at h;split at h
 ·split at h
  ·cases h
  ·cases h;exact⟨n.tail,by lia⟩
 ·cases h
theorem qX{k:Nat}{l r:Toks}(h:takeAlign l= .ok (k,r))(n:Gh l):Gh r/\Ki k:=by
 unfold takeAlign at h;split at h
 ·cases h;exact⟨n,.inl rfl⟩
 ·split at h
  ·rename_i e;split at h
   ·rename_i hc;cases h;have n2:=n.drop 1;rw[e] at n2;refine⟨n2.tail,?_⟩;have:=contains_iff_mem.mp hc;unfold ALIGNS at this;unfold Ki;simpa using this
   ·cases h
  ·cases h
theorem Cu:∀zs:List (PName×Nat×Ty),rowLength (Valaya.rowOf zs)=zs.length
 | []=>rfl
 |z::r=>by show rowLength (Valaya.rowOf r)+1=_;rw[Cu r];rfl
structure yW(n D:Nat)(z:PName×Nat×Ty):Prop where
 nm:z.1.name.length<=16
 hot:z.2.1<=1000
 pos:1<=countLeaves z.2.2
 ok:wf z.2.2 n
 dp:dep z.2.2<=n+D
theorem i9{n D:Nat}:∀{zs:List (PName×Nat×Ty)},(∀z∈zs,yW n D z)->wf (Valaya.rowOf zs) n/\dep (Valaya.rowOf zs)<=n+D/\zs.length<=countLeaves (Valaya.rowOf zs)
 | [],_=>⟨trivial,zero_le _,zero_le _⟩
 |z::r,h=>by
  obtain⟨h1,h2,h3⟩:=i9 (zs:=r) λy hy=>h y (mem_cons_of_mem _ hy);have hz:=h z mem_cons_self;refine⟨⟨hz.nm,hz.hot,hz.pos,hz.ok,h1⟩,max_le.mpr ⟨hz.dp,h2⟩,?_⟩;show r.length+1<=countLeaves z.2.2+countLeaves (Valaya.rowOf r);have:=hz.pos
  lia
def pQ(n D:Nat)(part:Toks->Except Fault (Ty×Toks)):Prop:=∀l t r,Gh l->part l= .ok (t,r)->Gh r/\wf t n/\1<=countLeaves t/\dep t<=n+D
theorem lO{n D:Nat}{part:Toks->Except Fault (Ty×Toks)}(hp:pQ n D part):∀(f:Nat) (zs:List (PName×Nat×Ty)) (l r:Toks) (t:Ty),(∀z∈zs,yW n D z)->Gh l->takeAlts part f zs l= .ok (t,r)->
  Gh r/\wf t (n+1)/\1<=countLeaves t/\dep t<=n+1+D
 | 0,_,_,_,_,_,_,h=>by cases h
 |f+1,zs,l,r,t,hz,nl,h=>by
  unfold takeAlts at h;split at h
  ·cases h
  rename_i h4;have h4:¬4<=zs.length:=h4;obtain⟨⟨x,l1⟩,e1,h⟩:=Aw h;obtain⟨n1,x1⟩:=Uj e1 nl;dsimp only at h;split at h
  ·cases h
  obtain⟨l2,e2,h⟩:=Aw h;have n2:=FZ e2 n1;obtain⟨⟨t3,l3⟩,e3,h⟩:=Aw h;obtain⟨n3,w3,c3,d3⟩:=hp _ _ _ n2 e3;have hz2:∀z∈zs++ [(x,1,t3)],yW n D z:=λz hm=>by
   rcases mem_append.mp hm with hm | hm
   ·exact hz z hm
   ·cases mem_singleton.mp hm;exact⟨x1,by show 1<=1000;lia,c3,w3,d3⟩
  dsimp only at h;split at h
  ·exact lO hp f _ _ _ _ hz2 (n3.drop 1) h
  ·split at h
   ·cases h
   ·rename_i h5;obtain⟨l4,e4,h⟩:=Mf h;cases h;obtain⟨r1,r2,r3⟩:=i9 hz2;refine⟨FZ e4 n3,⟨by lia,?_,?_,r1⟩,?_,?_⟩
    ·rw[Cu];lia
    ·rw[Cu,length_append];simp;lia
    ·show 1<=1+_;lia
    ·show dep _+1<=_;lia
theorem uO{rs:List Rec}{D:Nat}(hr:∀r∈rs,YS D r):∀n,pQ n D (takeTy rs n)
 | 0=>λl t r _ h=>by cases h
 |n+1=>λl t r nl h=>by
  have ih:=uO hr n;unfold takeTy at h;split at h
  ·obtain⟨⟨a,p,l1⟩,e1,h⟩:=Aw h;obtain⟨n1,a1,a2⟩:=pO e1 (nl.drop 1);obtain⟨l2,e2,h⟩:=Aw h;have n2:=FZ e2 n1;obtain⟨⟨b,q,l3⟩,e3,h⟩:=Aw h;obtain⟨n3,b1,b2⟩:=pO e3 n2;dsimp only at h;split at h
   ·cases h
   rename_i hab;obtain⟨⟨c,l4⟩,e4,h⟩:=Mf h;obtain⟨n4,c1⟩:=qX e4 n3;cases h;exact⟨n4,⟨by lia,Int.not_lt.mp hab,a1,b2,c1⟩,Nat.le_refl _,by show 1<=_;lia⟩
  split at h
  ·obtain⟨⟨t1,l1⟩,e1,h⟩:=Mf h;obtain⟨n1,w1,c1,d1⟩:=ih _ _ _ (nl.drop 1) e1;cases h;exact⟨n1,⟨by lia,w1⟩,by show 1<=1+_;lia,by show dep t1+1<=_;lia⟩
  split at h
  ·obtain⟨⟨k,l0⟩,e0,h⟩:=Aw h;obtain⟨n0,k1,k2⟩:=gI e0 (nl.drop 1);obtain⟨⟨t1,l1⟩,e1,h⟩:=Mf h;obtain⟨n1,w1,c1,d1⟩:=ih _ _ _ n0 e1;cases h;refine⟨n1,⟨by lia,k1,k2,w1⟩,?_,by show dep t1+1<=_;lia⟩;show 1<=k * countLeaves t1;exact Nat.mul_le_mul k1 c1
  split at h
  ·obtain⟨l1,e1,h⟩:=Aw h;exact lO ih _ _ _ _ _ (λz hz=>by cases hz) (FZ e1 (nl.drop 1)) h
  ·obtain⟨⟨x,l1⟩,e1,h⟩:=Aw h;obtain⟨n1,x1⟩:=Uj e1 nl;dsimp only at h;split at h
   ·cases h
   ·rename_i r0 e2;cases h;have ro:=hr _ (mem_of_find?_eq_some e2);exact⟨n1,⟨by lia,ro.nm,⟨ro.pos,ro.Hf⟩,ro.ok⟩,ro.pos,by show dep _+1<=_;have:=ro.dp;lia⟩
theorem SO{rs:List Rec}{D:Nat}(hr:∀r∈rs,YS D r):∀(f:Nat) (zs:List (PName×Nat×Ty)) (l r:Toks) (t:Ty),(∀z∈zs,yW 6 D z)->Gh l->takeFields rs f zs l= .ok (t,r)->
  Gh r/\wf t 6/\1<=countLeaves t/\dep t<=7+D/\∃fs,t= .rec_ fs
 | 0,_,_,_,_,_,_,h=>by cases h
 |f+1,zs,l,r,t,hz,nl,h=>by
  unfold takeFields at h;split at h
  ·rename_i hc;cases h;obtain⟨r1,r2,r3⟩:=i9 hz;have:1<=zs.length:=by
    cases zs with
    |nil=>cases hc.2
    |cons z r=>simp
   exact⟨nl.drop 1,⟨by rw[Cu];exact this,r1⟩,Nat.le_trans this r3,by show dep _+1<=_;lia,_,rfl⟩
  obtain⟨⟨x,l1⟩,e1,h⟩:=Aw h;obtain⟨n1,x1⟩:=Uj e1 nl;dsimp only at h;split at h
  ·cases h
  obtain⟨l2,e2,h⟩:=Aw h;have n2:=FZ e2 n1;obtain⟨⟨t3,l3⟩,e3,h⟩:=Aw h;obtain⟨n3,w3,c3,d3⟩:=uO hr 6 _ _ _ n2 e3;obtain⟨⟨k,l4⟩,e4,h⟩:=Aw h;have hk:Gh l4/\k<=1000:=by
   split at e4
   ·obtain⟨a,_,c⟩:=gI e4 (n3.drop 1);exact⟨a,c⟩
   ·cases e4;exact⟨n3,by lia⟩
  obtain⟨l5,e5,h⟩:=Aw h;refine SO hr f _ _ _ _ (λz hm=> ?_) (FZ e5 hk.1) h;rcases mem_append.mp hm with hm | hm
  ·exact hz z hm
  ·cases mem_singleton.mp hm;exact⟨x1,hk.2,c3,w3,d3⟩
theorem lQ:∀(f:Nat) (rs:List Rec) (l:Toks) (out:List Rec),(∀r∈rs,YS (7 * rs.length) r)->rs.length<=6->Gh l->takeRecs f rs l= .ok out->(∀r∈out,YS 42 r)/\out.length<=6/\1<=out.length
 | 0,_,_,_,_,_,_,h=>by cases h
 |f+1,rs,l,out,hr,h6,nl,h=>by
  unfold takeRecs at h;split at h
  ·rename_i hc;cases h;refine⟨λr hm=> ?_,h6,?_⟩
   ·have:=hr r hm;exact⟨this.nm,this.ok,this.Hf,this.pos,by have:=this.dp;lia,this.rc⟩
   ·cases rs with
    |nil=>cases hc.2
    |cons z r=>simp
  obtain⟨l1,e1,h⟩:=Aw h;have n1:=FZ e1 nl;split at h
  ·cases h
  rename_i h7;have h7:¬6<=rs.length:=h7;obtain⟨⟨x,l2⟩,e2,h⟩:=Aw h;obtain⟨n2,x2⟩:=Uj e2 n1;dsimp only at h;split at h
  ·cases h
  obtain⟨l3,e3,h⟩:=Aw h;have n3:=FZ e3 n2;obtain⟨⟨t4,l4⟩,e4,h⟩:=Aw h;obtain⟨n4,w4,c4,d4,fs,rfl⟩:=SO hr _ _ _ _ _ (λz hz=>by cases hz) n3 e4;dsimp only at h;split at h
  ·cases h
  rename_i h24;have h24:countLeaves (.rec_ fs)<=24:=le_of_not_lt h24;refine lQ f _ _ _ (λr hm=> ?_) (by rw[length_append];simp;lia) n4 h;rw[length_append];rcases mem_append.mp hm with hm | hm
  ·have:=hr r hm;exact⟨this.nm,this.ok,this.Hf,this.pos,by have:=this.dp;lia,this.rc⟩
  ·cases mem_singleton.mp hm;exact⟨x2,w4,h24,c4,by show dep _<=_;simp only[length_cons,length_nil];lia,fs,rfl⟩
theorem WG:∀(f n m:Nat),n<=2 ^ f->(bitsBy f n<=m↔n<=2 ^ m)
 | 0,n,m,h=>by have:n<=1:=h;have h2:=Nat.one_le_two_pow (n:=m);exact⟨λ_=>by lia,λ_=>zero_le _⟩
 |f+1,n,m,h=>by
  unfold bitsBy;have h2:=Nat.one_le_two_pow (n:=m);split
  ·exact⟨λ_=>by lia,λ_=>zero_le _⟩
  ·rename_i hn;rw[pow_succ] at h;cases m with
   |zero=>simp;lia
   |succ m=>
    have ih:=WG f ((n+1) / 2) m (by lia);rw[pow_succ];constructor
    ·intro z;have:=ih.mp (by lia)
     lia
    ·intro z;have:=ih.mpr (by lia)
     lia
def lg(v:Nat):Nat:=if v=0 then 0 else v.log2+1
theorem uQ(v m:Nat):lg v<=m↔v<2 ^ m:=by
 unfold lg;split
 ·rename_i h;subst h;exact⟨λ_=>Nat.two_pow_pos m,λ_=>zero_le _⟩
 ·rename_i h;rw[<-log2_lt h];lia
theorem sU{v:Nat}(h:v<2 ^ 64):bitsBy 64 (v+1)=lg v:=by
 apply Nat.le_antisymm
 ·rw[WG 64 _ _ (by lia)];have:=(uQ v (lg v)).mp (Nat.le_refl _)
  lia
 ·rw[uQ];have:=(WG 64 (v+1) _ (by lia)).mp (Nat.le_refl _)
  lia
theorem yD(x:Leaf):wd x<=64:=by
 unfold wd width bitsFor;have:∀f n,bitsBy f n<=f:=by
  intro f;induction f with
  |zero=>intro n;exact Nat.le_refl _
  |succ f ih=>intro n;unfold bitsBy;split;lia;have:=ih ((n+1) / 2);lia
 exact max_le.mpr ⟨by lia,this 64 _⟩
theorem nG:∀(t:Ty) (n k:Nat) (x:Bytes) (h:Nat) (g:List (Nat×Nat)) (alt:Option (Nat×Nat)),wf t n->∀y∈leavesBy t k x h g alt,Ki y.align:=by
 intro t;induction t with
 |num a b c=>intro n k x h g alt w y hy;cases mem_singleton.mp hy;exact w.2.2.2.2
 |maybe t ih=>
  intro n k x h g alt w y hy;rcases mem_cons.mp hy with rfl | hy
  ·exact .inl rfl
  ·exact ih _ _ _ _ _ _ w.2 y hy
 |many m t ih=>intro n k x h g alt w y hy;obtain⟨i,_,hy⟩:=mem_flatMap.mp hy;exact ih _ _ _ _ _ _ w.2.2.2 y hy
 |rec_ fs ih=>intro n k x h g alt w y hy;exact ih _ _ _ _ _ _ w.2 y hy
 |named z t ih=>intro n k x h g alt w y hy;exact ih _ _ _ _ _ _ w.2.2.2 y hy
 |one_ fs ih=>
  intro n k x h g alt w y hy;rcases mem_cons.mp hy with rfl | hy
  ·exact .inl rfl
  ·exact ih _ _ _ _ _ _ w.2.2.2 y hy
 |nil=>intro n k x h g alt w y hy;cases hy
 |field z f t r ih1 ih2=>
  intro n k x h g alt w y hy;cases alt<;>rcases mem_append.mp hy with hy | hy
  ·exact ih1 _ _ _ _ _ _ w.2.2.2.1 y hy
  ·exact ih2 _ _ _ _ _ _ w.2.2.2.2 y hy
  ·exact ih1 _ _ _ _ _ _ w.2.2.2.1 y hy
  ·exact ih2 _ _ _ _ _ _ w.2.2.2.2 y hy
theorem YS.ls{D:Nat}{r:Rec}(h:YS D r):QB (leavesOf r.t):=
 ⟨by unfold leavesOf;rw[Dd];exact h.Hf,by unfold leavesOf;rw[Dd];exact h.pos,nG r.t 6 0 [] 1 [] none h.ok,λx _=>yD x⟩
def oB(x:Leaf):Prop:=(x.guards.map (·.1)).Nodup
theorem lR{g:List (Nat×Nat)}{a:Nat×Nat}(hg:(g.map (·.1)).Nodup)(h:∀p∈g,p.1≠a.1):((g++ [a]).map (·.1)).Nodup:=by
 rw[map_append,nodup_append];refine⟨hg,by simp,λx hx y hy=> ?_⟩;obtain⟨p,hp,rfl⟩:=mem_map.mp hx;have:y=a.1:=by simpa using hy
 subst this;exact h p hp
theorem nH:∀(t:Ty) (k:Nat) (x:Bytes) (h:Nat) (g:List (Nat×Nat)) (alt:Option (Nat×Nat)),(g.map (·.1)).Nodup->(∀p∈g,p.1<k)->(∀a,alt=some a->a.1<k/\∀p∈g,p.1≠a.1)->∀y∈leavesBy t k x h g alt,oB y:=by
 intro t;induction t with
 |num a b c=>intro k x h g alt hg hk ha y hy;cases mem_singleton.mp hy;exact hg
 |maybe t ih=>
  intro k x h g alt hg hk ha y hy;rcases mem_cons.mp hy with rfl | hy
  ·exact hg
  ·refine ih _ _ _ _ _ (lR hg λp hp=>ne_of_lt (hk p hp)) (λp hp=> ?_) (λa z=>(by cases z)) y hy;rcases mem_append.mp hp with hp | hp
   ·have:=hk p hp;lia
   ·cases mem_singleton.mp hp;exact lt_succ_self _
 |many m t ih=>intro k x h g alt hg hk ha y hy;obtain⟨i,_,hy⟩:=mem_flatMap.mp hy;exact ih _ _ _ _ _ hg (λp hp=>by have:=hk p hp;lia) (λa z=>(by cases z)) y hy
 |rec_ fs ih=>intro k x h g alt hg hk ha y hy;exact ih _ _ _ _ _ hg hk (λa z=>(by cases z)) y hy
 |named z t ih=>intro k x h g alt hg hk ha y hy;exact ih _ _ _ _ _ hg hk (λa z=>(by cases z)) y hy
 |one_ fs ih=>
  intro k x h g alt hg hk ha y hy;rcases mem_cons.mp hy with rfl | hy
  ·exact hg
  ·exact ih _ _ _ _ _ hg (λp hp=>by have:=hk p hp;lia) (λa z=>by cases z;exact⟨lt_succ_self _,λp hp=>ne_of_lt (hk p hp)⟩) y hy
 |nil=>intro k x h g alt hg hk ha y hy;cases hy
 |field z f t r ih1 ih2=>
  intro k x h g alt hg hk ha y hy;cases alt with
  |none=>
   rcases mem_append.mp hy with hy | hy
   ·exact ih1 _ _ _ _ _ hg hk (λa z=>(by cases z)) y hy
   ·exact ih2 _ _ _ _ _ hg (λp hp=>by have:=hk p hp;lia) (λa z=>(by cases z)) y hy
  |some a=>
   obtain⟨a1,a2⟩:=ha a rfl;rcases mem_append.mp hy with hy | hy
   ·refine ih1 _ _ _ _ _ (lR hg a2) (λp hp=> ?_) (λa z=>(by cases z)) y hy;rcases mem_append.mp hp with hp | hp
    ·exact hk p hp
    ·cases mem_singleton.mp hp;exact a1
   ·exact ih2 _ _ _ _ _ hg (λp hp=>by have:=hk p hp;lia) (λb z=>by cases z;exact⟨by dsimp only;lia,a2⟩) y hy
theorem hU(t:Ty):∀y∈leavesOf t,oB y:=nH t 0 [] 1 [] none List.nodup_nil (λp hp=>(by cases hp)) (λa z=>(by cases z))
theorem cT:∀{g:List (Nat×Nat)},(g.map (·.1)).Nodup->∀{p:Nat×Nat},p∈g->g.lookup p.1=some p.2
 | [],_,_,h=>by cases h
 |q::g,nd,p,h=>by
  obtain⟨n1,n2⟩:=nodup_cons.mp nd;rcases mem_cons.mp h with rfl | h
  ·rw[lookup_cons,beq_self_eq_true]
  ·have:(p.1==q.1)=false:=by
    rw[beq_eq_false_iff_ne];intro z;exact n1 (mem_map.mpr ⟨p,h,z⟩)
   rw[lookup_cons,this];exact cT n2 h
theorem lookup_mem:∀{g:List (Nat×Nat)} {k v:Nat},g.lookup k=some v->(k,v)∈g
 | [],_,_,h=>by cases h
 |q::g,k,v,h=>by
  rw[lookup_cons] at h;cases e:k==q.1 with
  |true=>rw[e] at h;cases h;rw[beq_iff_eq.mp e];exact mem_cons_self
  |false=>rw[e] at h;exact mem_cons_of_mem _ (lookup_mem h)
theorem jf{a b:Leaf}(hb:oB b):apart a b=a.guards.any λp=>decide ((b.guards.lookup p.1).getD p.2≠p.2):=by
 rw[Bool.eq_iff_iff];unfold apart;rw[any_eq_true,any_eq_true];constructor
 ·rintro⟨p,hp,h⟩;obtain⟨q,hq,h2⟩:=any_eq_true.mp h;rw[Bool.and_eq_true,beq_iff_eq,bne_iff_ne] at h2;refine⟨p,hp,decide_eq_true ?_⟩;rw[h2.1,cT hb hq];exact λz=>h2.2 z.symm
 ·rintro⟨p,hp,h⟩;have h:=of_decide_eq_true h;refine⟨p,hp,?_⟩;cases e:b.guards.lookup p.1 with
  |none=>rw[e] at h;exact absurd rfl h
  |some v=>rw[e] at h;refine any_eq_true.mpr ⟨(p.1,v),lookup_mem e,?_⟩;rw[Bool.and_eq_true,beq_iff_eq,bne_iff_ne];exact⟨rfl,λz=>h z.symm⟩
end Mt
namespace Pr
open PySem PySem.Spec PyProof.Rows L2
def iY(K:Frag)(a:Addr)(xs:List V):Prop:=
 ∃(o:Obj) (A7:Array Value) (n:Nat),K.lookup a=some o/\o.cls= .type "tuple"/\o.data= .seq A7 n/\A7.size<=sizeLine/\Vals xs A7.toList
theorem iY.sq{K:Frag}{a:Addr}{xs:List V}(h:iY K a xs)(H:Hp):YO K H a xs:= .inr h
abbrev cU:Stmt:=top 13
abbrev cV:Stmt:=top 14
abbrev cW:Stmt:=top 15
abbrev Sn:Stmt:=top 16
abbrev ZL:Stmt:=top 17
abbrev W4:Stmt:=top 18
abbrev cX:Stmt:=top 19
abbrev ZM:Stmt:=top 20
abbrev RI:Stmt:=top 21
abbrev W5:Stmt:=top 22
abbrev LI:Stmt:=top 23
abbrev W6:Stmt:=top 24
abbrev Gp:Stmt:=top 25
abbrev PN:Stmt:=top 26
abbrev ZN:Stmt:=top 29
abbrev W7:Stmt:=top 37
abbrev Nz:Stmt:=top 38
abbrev W8:Stmt:=top 52
abbrev So:Stmt:=top 53
abbrev VA:Stmt:=top 54
abbrev ZO:Stmt:=top 55
abbrev cY:Stmt:=top 56
abbrev W9:Stmt:=top 57
abbrev XA:Stmt:=top 58
abbrev ZP:Stmt:=top 59
abbrev VB:Stmt:=top 71
abbrev Sq:Stmt:=top 74
abbrev Sr:Stmt:=top 75
abbrev PQ:Stmt:=top 76
abbrev Ss:Stmt:=top 77
abbrev XB:Stmt:=top 78
abbrev gJ:Stmt:=top 79
abbrev cZ:Stmt:=top 101
abbrev Su:Stmt:=top 102
abbrev LJ:Stmt:=top 103
abbrev Sv:Stmt:=top 106
abbrev XC:Stmt:=top 107
abbrev RJ:Stmt:=top 108
abbrev VC:Stmt:=top 109
abbrev Sw:Stmt:=top 110
abbrev VD:Stmt:=Aa (top 10) 0
abbrev XE:Stmt:=Aa (top 28) 0
abbrev LK:Stmt:=Aa (top 30) 0
abbrev Fg:Stmt:=Aa (top 30) 1
abbrev Jl:Stmt:=Aa (top 30) 2
abbrev LL:Stmt:=Aa (top 30) 3
abbrev LM:Stmt:=Aa (top 30) 4
abbrev L0:Stmt:=Aa (top 31) 0
abbrev GU:Stmt:=Aa (top 31) 1
abbrev LN:Stmt:=Aa (top 31) 2
abbrev L1:Stmt:=Aa (top 31) 3
abbrev L3:Stmt:=Aa (top 31) 4
abbrev N0:Stmt:=Aa (top 32) 0
abbrev HY:Stmt:=Aa (top 32) 1
abbrev L4:Stmt:=Aa (top 32) 2
abbrev N1:Stmt:=Aa (top 32) 3
abbrev N2:Stmt:=Aa (top 32) 4
abbrev PR:Stmt:=Aa (top 33) 0
abbrev Iu:Stmt:=Aa (top 33) 1
abbrev Hi:Stmt:=Aa (top 33) 2
abbrev N3:Stmt:=Aa (top 33) 3
abbrev PU:Stmt:=Aa (top 33) 4
abbrev PV:Stmt:=Aa (top 33) 5
abbrev L5:Stmt:=Aa (top 34) 0
abbrev GV:Stmt:=Aa (top 34) 1
abbrev LO:Stmt:=Aa (top 34) 2
abbrev L6:Stmt:=Aa (top 34) 3
abbrev L7:Stmt:=Aa (top 34) 4
abbrev VE:Stmt:=Aa (top 35) 0
abbrev VF:Stmt:=Aa (top 35) 1
abbrev Sx:Stmt:=Aa (top 36) 0
abbrev Jm:Stmt:=Aa (top 36) 1
abbrev RK:Stmt:=Aa (top 36) 2
abbrev Sy:Stmt:=Aa (top 36) 3
abbrev Sz:Stmt:=Aa (top 36) 4
abbrev VG:Stmt:=Aa (top 51) 0
abbrev S0:Stmt:=Aa (top 72) 0
abbrev LP:Stmt:=Aa (top 72) 1
abbrev S1:Stmt:=Aa (top 72) 2
abbrev S2:Stmt:=Aa (top 72) 3
abbrev HZ:Stmt:=Aa (top 72) 4
abbrev Iv:Stmt:=Aa (top 72) 5
abbrev Hj:Stmt:=Aa (top 72) 6
abbrev Iw:Stmt:=Aa (top 72) 7
abbrev Iy:Stmt:=Aa (top 72) 8
abbrev L8:Stmt:=Aa (top 72) 9
abbrev Jn:Stmt:=Aa (top 72) 10
abbrev Eh:Stmt:=Aa (top 72) 11
abbrev Jo:Stmt:=Aa (top 72) 12
abbrev Jp:Stmt:=Aa (top 72) 13
abbrev GW:Stmt:=Aa (top 72) 14
abbrev Ey:Stmt:=Aa (top 72) 15
abbrev Ez:Stmt:=Aa (top 72) 16
abbrev S3:Stmt:=Aa (top 80) 0
abbrev L9:Stmt:=Aa (top 80) 1
abbrev LQ:Stmt:=Aa (top 80) 2
abbrev S4:Stmt:=Aa (top 104) 0
abbrev N4:Stmt:=Aa (top 104) 1
abbrev Iz:Stmt:=Aa (top 104) 2
abbrev MA:Stmt:=Aa (top 104) 3
abbrev S5:Stmt:=Aa (top 105) 0
abbrev S6:Stmt:=Aa (top 105) 1
abbrev VH:Stmt:=Aa (top 105) 2
abbrev RL:Stmt:=Aa (top 105) 3
abbrev S7:Stmt:=Aa (top 105) 4
abbrev RM:Stmt:=Aa (top 105) 5
abbrev PX:Stmt:=Aa (top 105) 6
abbrev RN:Stmt:=Aa (top 105) 7
abbrev RO:Stmt:=Aa (top 105) 8
abbrev Jq:Stmt:=Aa (top 105) 9
abbrev GX:Stmt:=Aa (top 105) 10
set_option genInjectivity false in
structure Bz where
 BC:Addr
 Kn:Addr
 A6:Addr
 BO:Addr
 BS:Addr
 BV:Addr
 BP:Addr
 IW:Addr
 BD:Addr
 Co:Addr
 Al:Addr
 EN:Addr
 Bn:Addr
 BX:Addr
 WH:Addr
 WI:FuncData
 WJ:Addr
 WK:FuncData
 WL:Addr
 WM:FuncData
 Mg:Addr
 Mh:FuncData
 T5:Addr
 T6:FuncData
 Qi:Addr
 Qj:FuncData
 WN:Addr
 WO:FuncData
 T7:Addr
 T8:FuncData
 Ky:Addr
 Kz:FuncData
 Qk:Addr
 Ql:FuncData
 Fx:Addr
 Fy:FuncData
 Qm:Addr
 Qn:FuncData
 Oj:Addr
 Ka:FuncData
 JP:Addr
 JQ:FuncData
 T9:Addr
 UA:FuncData
 Qo:Addr
 Qp:FuncData
 Hy:Addr
 Hz:FuncData
 Qq:Addr
 Qr:FuncData
 Mi:Addr
 Mj:FuncData
 Ol:Addr
 Om:FuncData
 UB:Addr
 UC:FuncData
 WQ:Addr
 WR:FuncData
 Qs:Addr
 Qt:FuncData
 Qu:Addr
 Qv:FuncData
 UD:Addr
 UE:FuncData
 Oo:Addr
 Oq:FuncData
 Ml:Addr
 Mm:FuncData
 Mn:Addr
 Mo:FuncData
 JR:Addr
 JS:FuncData
 Dz:Addr
 D0:FuncData
 Qw:Addr
 Qx:FuncData
 Y3:Addr
 Y4:FuncData
 WS:Addr
 WT:FuncData
 Mp:Addr
 Mq:FuncData
 Fz:Addr
 F0:FuncData
 Mr:Addr
 Ms:FuncData
 Qy:Addr
 Qz:FuncData
 K0:Addr
 K1:FuncData
 Ot:Addr
 Ou:FuncData
 Mu:Addr
 Mv:FuncData
 Gq:Addr
 Ov:FuncData
 Q2:Addr
 Q3:FuncData
 F1:Addr
 F2:FuncData
 C9:Addr
 DA:FuncData
 E8:Addr
 E9:FuncData
 F3:Addr
 F4:FuncData
 F5:Addr
 F6:FuncData
 G3:Addr
 G4:FuncData
 DO:Addr
 DP:FuncData
 F7:Addr
 F8:FuncData
 G5:Addr
 G6:FuncData
 G7:Addr
 G8:FuncData
 IA:Addr
 IB:FuncData
 Dh:Addr
 Di:FuncData
 G9:Addr
 HA:FuncData
 IC:Addr
 ID:FuncData
 IE:Addr
 IF:FuncData
 JT:Addr
 JU:FuncData
 EW:Addr
 EX:FuncData
 D8:Addr
 D9:FuncData
 IG:Addr
 II:FuncData
 JV:Addr
 JW:FuncData
 JX:Addr
 JY:FuncData
 HB:Addr
 HC:FuncData
 DQ:Addr
 DR:FuncData
 F9:Addr
 GA:FuncData
 HD:Addr
 HE:FuncData
 HF:Addr
 HG:FuncData
 Ow:Addr
 Ox:FuncData
 Oy:Addr
 Oz:FuncData
 Mw:Addr
 Mx:FuncData
 FA:Addr
 FC:FuncData
 Gw:Addr
 Gx:FuncData
 Ia:Addr
 Ib:FuncData
 My:Addr
 Mz:FuncData
 O0:Addr
 O1:FuncData
 M0:Addr
 M1:FuncData
 GB:Addr
 GC:FuncData
 M3:Addr
 M4:FuncData
 M5:Addr
 M6:FuncData
 Dj:Addr
 Dk:FuncData
 EY:Addr
 EZ:FuncData
 EA:Addr
 EB:FuncData
 Ea:Addr
 Eb:FuncData
 Ec:Addr
 Ed:FuncData
 HH:Addr
 HI:FuncData
 BF:Addr
 BG:FuncData
 Cm:Addr
 Cn:FuncData
 FD:Addr
 FE:FuncData
 FF:Addr
 FG:FuncData
 Bq:Addr
 Br:FuncData
 B1:Addr
 B2:FuncData
 Cp:Addr
 Cq:FuncData
 M7:Addr
 M8:FuncData
 CN:Addr
 CO:FuncData
 GD:Addr
 GF:FuncData
 M9:Addr
 NA:FuncData
 IJ:Addr
 IK:FuncData
 Ee:Addr
 Ef:FuncData
 HJ:Addr
 HK:FuncData
 NB:Addr
 NC:FuncData
 ND:Addr
 NF:FuncData
 O2:Addr
 O3:FuncData
 K2:Addr
 K3:FuncData
 NG:Addr
 NH:FuncData
 K4:Addr
 K5:FuncData
 JZ:Addr
 Ja:FuncData
 K6:Addr
 K7:FuncData
 K8:Addr
 K9:FuncData
 FH:Addr
 FI:FuncData
 DS:Addr
 DT:FuncData
 ZQ:Addr
 gK:Addr
 VI:Addr
 lS:Addr
 rW:Addr
 NW:Addr
structure Txt(K:Frag)(mg:Str->Option Value)(t:Bz):Prop where
 IX:mg "Fault"=some (.ref t.BC)
 jA:mg "Leaf"=some (.ref t.Kn)
 aT:mg "NumberShape"=some (.ref t.A6)
 VJ:mg "MaybeShape"=some (.ref t.BO)
 XF:mg "ManyShape"=some (.ref t.BS)
 jg:mg "OneShape"=some (.ref t.BV)
 eL:mg "NamedShape"=some (.ref t.BP)
 sV:mg "Field"=some (.ref t.IW)
 qY:mg "Record"=some (.ref t.BD)
 Uk:mg "Token"=some (.ref t.Co)
 qZ:mg "Parser"=some (.ref t.Al)
 qc:mg "Search"=some (.ref t.EN)
 qd:mg "Reader"=some (.ref t.Bn)
 qe:mg "Keeper"=some (.ref t.BX)
 yY:findIn K (.ref t.BC) "__init__"=some (some (.ref t.Gq))
 jB:Mk K t.Kn t.Q2
 aU:Mk K t.A6 t.F1
 VL:Mk K t.BO t.G3
 XG:Mk K t.BS t.IA
 jh:Mk K t.BV t.JT
 eM:Mk K t.BP t.HB
 sW:Mk K t.IW t.Ow
 qf:Mk K t.BD t.Mw
 Ul:Mk K t.Co t.O0
 qg:Mk K t.Al t.M0
 qh:Mk K t.EN t.M7
 qi:Mk K t.Bn t.M9
 qj:Mk K t.BX t.NB
 nI:mg "size_of"=some (.ref t.WH)
 Ke:mg "span_of"=some (.ref t.WJ)
 cb:mg "crosses"=some (.ref t.WL)
 aV:mg "crosses_any"=some (.ref t.Mg)
 ji:mg "is_right"=some (.ref t.T5)
 hW:mg "has_fault"=some (.ref t.Qi)
 nJ:mg "overlap"=some (.ref t.WN)
 jj:mg "round_up"=some (.ref t.T7)
 Gy:mg "put_in_order"=some (.ref t.Ky)
 XH:mg "first_fit"=some (.ref t.Qk)
 LR:mg "beyond_hindrance"=some (.ref t.Fx)
 Q4:mg "own_order"=some (.ref t.Qm)
 O4:mg "rule_order"=some (.ref t.Oj)
 Du:mg "span_in_order"=some (.ref t.JP)
 ZR:mg "bits_for"=some (.ref t.T9)
 hX:mg "rivals_of"=some (.ref t.Qo)
 Wh:mg "never_together"=some (.ref t.Hy)
 hZ:mg "tokens_of"=some (.ref t.Qq)
 S8:mg "skip_blanks"=some (.ref t.Mi)
 eN:mg "remark_end"=some (.ref t.Ol)
 jk:mg "token_at"=some (.ref t.UB)
 nK:mg "name_at"=some (.ref t.WQ)
 h9:mg "number_at"=some (.ref t.Qs)
 Q5:mg "letter_of"=some (.ref t.Qu)
 Kv:mg "digit_of"=some (.ref t.UD)
 eO:mg "records_of"=some (.ref t.Oo)
 NI:mg "first_order"=some (.ref t.Ml)
 aW:mg "order_count"=some (.ref t.Mn)
 Xq:mg "orders_within"=some (.ref t.JR)
 S9:mg "ways_within"=some (.ref t.Dz)
 XI:mg "next_fits"=some (.ref t.Qw)
 gL:mg "put_at"=some (.ref t.Y3)
 nM:mg "answers"=some (.ref t.WS)
 aX:mg "answer_next"=some (.ref t.Mp)
 UL:mg "answer_of_record"=some (.ref t.Fz)
 NJ:mg "told_layout"=some (.ref t.Mr)
 iA:mg "is_layout"=some (.ref t.Qy)
 LA:mg "can_be_tried"=some (.ref t.K0)
 O5:mg "least_span"=some (.ref t.Ot)
 aY:mg "above_least"=some (.ref t.Mu)
 Fh:Bt K t.A6 "leaf_count" t.C9
 FJ:Bt K t.A6 "bound" t.E8
 LS:Bt K t.A6 "grow" t.F3
 LU:Bt K t.A6 "form" t.F5
 GY:Bt K t.BO "leaf_count" t.DO
 LV:Bt K t.BO "bound" t.F7
 MB:Bt K t.BO "grow" t.G5
 MD:Bt K t.BO "form" t.G7
 Ha:Bt K t.BS "leaf_count" t.Dh
 ME:Bt K t.BS "bound" t.G9
 N5:Bt K t.BS "grow" t.IC
 N6:Bt K t.BS "form" t.IE
 JA:Bt K t.BV "tag_width" t.EW
 Hk:Bt K t.BV "leaf_count" t.D8
 N7:Bt K t.BV "bound" t.IG
 PY:Bt K t.BV "grow" t.JV
 PZ:Bt K t.BV "form" t.JX
 GZ:Bt K t.BP "leaf_count" t.DQ
 LW:Bt K t.BP "bound" t.F9
 MF:Bt K t.BP "grow" t.HD
 MG:Bt K t.BP "form" t.HF
 eP:Bt K t.IW "form" t.Oy
 CW:Bt K t.BD "leaf_count" t.FA
 DK:Bt K t.BD "bound" t.Gw
 TC:Bt K t.BD "grow" t.Ia
 aZ:Bt K t.BD "form" t.My
 Ae:Bt K t.Al "next_kind" t.GB
 B9:Bt K t.Al "fail" t.M3
 Aq:Bt K t.Al "take" t.M5
 Dl:Bt K t.Al "take_new_name" t.Dj
 CF:Bt K t.Al "take_number" t.EY
 P1:Bt K t.Al "read_records" t.EA
 Ry:Bt K t.Al "read_record" t.Ea
 Rz:Bt K t.Al "read_fields" t.Ec
 Vr:Bt K t.Al "read_hot" t.HH
 Bx:Bt K t.Al "read_shape" t.BF
 Ei:Bt K t.Al "read_number_shape" t.Cm
 Jr:Bt K t.Al "read_value" t.FD
 SW:Bt K t.Al "read_align" t.FF
 Ga:Bt K t.Al "read_one_shape" t.Bq
 E1:Bt K t.Al "read_alternative" t.B1
 E2:Bt K t.Al "read_named_shape" t.Cp
 MH:Bt K t.EN "put_next" t.CN
 UM:Bt K t.EN "is_better" t.GD
 Wi:Bt K t.Bn "is_done" t.IJ
 Bo:Bt K t.Bn "take_number" t.Ee
 HL:Bt K t.Bn "take_row" t.HJ
 aa:Bt K t.BX "load" t.ND
 eQ:Bt K t.BX "fit" t.O2
 Zl:Bt K t.BX "least" t.K2
 ae:Bt K t.BX "rule" t.NG
 Zm:Bt K t.BX "waste" t.K4
 Xr:Bt K t.BX "orders" t.JZ
 Zn:Bt K t.BX "judge" t.K6
 Zo:Bt K t.BX "table" t.K8
 DE:Bt K t.BX "refusal_of" t.FH
 DU:Bt K t.BX "refusal_to_try" t.DS
 WU:Bm K "size_of" "size_of" cU t.WH t.WI
 GS:Bm K "span_of" "span_of" cV t.WJ t.WK
 SQ:Bm K "crosses" "crosses" cW t.WL t.WM
 NK:Bm K "crosses_any" "crosses_any" Sn t.Mg t.Mh
 UG:Bm K "is_right" "is_right" ZL t.T5 t.T6
 Q6:Bm K "has_fault" "has_fault" W4 t.Qi t.Qj
 WV:Bm K "overlap" "overlap" cX t.WN t.WO
 UH:Bm K "round_up" "round_up" ZM t.T7 t.T8
 DL:Bm K "put_in_order" "put_in_order" RI t.Ky t.Kz
 Ly:Bm K "first_fit" "first_fit" W5 t.Qk t.Ql
 Df:Bm K "beyond_hindrance" "beyond_hindrance" LI t.Fx t.Fy
 Io:Bm K "own_order" "own_order" W6 t.Qm t.Qn
 Gr:Bm K "rule_order" "rule_order" Gp t.Oj t.Ka
 CQ:Bm K "span_in_order" "span_in_order" PN t.JP t.JQ
 Ob:Bm K "bits_for" "bits_for" ZN t.T9 t.UA
 Q7:Bm K "rivals_of" "rivals_of" W7 t.Qo t.Qp
 IL:Bm K "never_together" "never_together" Nz t.Hy t.Hz
 Q8:Bm K "tokens_of" "tokens_of" W8 t.Qq t.Qr
 Ic:Bm K "skip_blanks" "skip_blanks" So t.Mi t.Mj
 O6:Bm K "remark_end" "remark_end" VA t.Ol t.Om
 UI:Bm K "token_at" "token_at" ZO t.UB t.UC
 WW:Bm K "name_at" "name_at" cY t.WQ t.WR
 Q9:Bm K "number_at" "number_at" W9 t.Qs t.Qt
 Ip:Bm K "letter_of" "letter_of" XA t.Qu t.Qv
 Fv:Bm K "digit_of" "digit_of" ZP t.UD t.UE
 O7:Bm K "records_of" "records_of" VB t.Oo t.Oq
 Fc:Bm K "first_order" "first_order" Sq t.Ml t.Mm
 NL:Bm K "order_count" "order_count" Sr t.Mn t.Mo
 Jb:Bm K "orders_within" "orders_within" PQ t.JR t.JS
 Fd:Bm K "ways_within" "ways_within" Ss t.Dz t.D0
 Lz:Bm K "next_fits" "next_fits" XB t.Qw t.Qx
 Uy:Bm K "put_at" "put_at" gJ t.Y3 t.Y4
 cf:Bm K "answers" "answers" cZ t.WS t.WT
 NM:Bm K "answer_next" "answer_next" Su t.Mp t.Mq
 GG:Bm K "answer_of_record" "answer_of_record" LJ t.Fz t.F0
 Fe:Bm K "told_layout" "told_layout" Sv t.Mr t.Ms
 RA:Bm K "is_layout" "is_layout" XC t.Qy t.Qz
 EU:Bm K "can_be_tried" "can_be_tried" RJ t.K0 t.K1
 Gs:Bm K "least_span" "least_span" VC t.Ot t.Ou
 NN:Bm K "above_least" "above_least" Sw t.Mu t.Mv
 VM:Bm K "__init__" "Fault.__init__" VD t.Gq t.Ov
 XJ:Bm K "__init__" "Leaf.__init__" XE t.Q2 t.Q3
 LY:Bm K "__init__" "NumberShape.__init__" LK t.F1 t.F2
 DB:Bm K "leaf_count" "NumberShape.leaf_count" Fg t.C9 t.DA
 FL:Bm K "bound" "NumberShape.bound" Jl t.E8 t.E9
 GH:Bm K "grow" "NumberShape.grow" LL t.F3 t.F4
 GI:Bm K "form" "NumberShape.form" LM t.F5 t.F6
 MI:Bm K "__init__" "MaybeShape.__init__" L0 t.G3 t.G4
 DV:Bm K "leaf_count" "MaybeShape.leaf_count" GU t.DO t.DP
 GJ:Bm K "bound" "MaybeShape.bound" LN t.F7 t.F8
 HM:Bm K "grow" "MaybeShape.grow" L1 t.G5 t.G6
 HN:Bm K "form" "MaybeShape.form" L3 t.G7 t.G8
 N8:Bm K "__init__" "ManyShape.__init__" N0 t.IA t.IB
 Dm:Bm K "leaf_count" "ManyShape.leaf_count" HY t.Dh t.Di
 HP:Bm K "bound" "ManyShape.bound" L4 t.G9 t.HA
 IM:Bm K "grow" "ManyShape.grow" N1 t.IC t.ID
 IP:Bm K "form" "ManyShape.form" N2 t.IE t.IF
 Pa:Bm K "__init__" "OneShape.__init__" PR t.JT t.JU
 JB:Bm K "tag_width" "OneShape.tag_width" Iu t.EW t.EX
 EC:Bm K "leaf_count" "OneShape.leaf_count" Hi t.D8 t.D9
 IQ:Bm K "bound" "OneShape.bound" N3 t.IG t.II
 Jc:Bm K "grow" "OneShape.grow" PU t.JV t.JW
 Jd:Bm K "form" "OneShape.form" PV t.JX t.JY
 MJ:Bm K "__init__" "NamedShape.__init__" L5 t.HB t.HC
 DW:Bm K "leaf_count" "NamedShape.leaf_count" GV t.DQ t.DR
 GK:Bm K "bound" "NamedShape.bound" LO t.F9 t.GA
 HQ:Bm K "grow" "NamedShape.grow" L6 t.HD t.HE
 HR:Bm K "form" "NamedShape.form" L7 t.HF t.HG
 VN:Bm K "__init__" "Field.__init__" VE t.Ow t.Ox
 VO:Bm K "form" "Field.form" VF t.Oy t.Oz
 TF:Bm K "__init__" "Record.__init__" Sx t.Mw t.Mx
 Js:Bm K "leaf_count" "Record.leaf_count" Jm t.FA t.FC
 RP:Bm K "bound" "Record.bound" RK t.Gw t.Gx
 TH:Bm K "grow" "Record.grow" Sy t.Ia t.Ib
 TJ:Bm K "form" "Record.form" Sz t.My t.Mz
 VP:Bm K "__init__" "Token.__init__" VG t.O0 t.O1
 TK:Bm K "__init__" "Parser.__init__" S0 t.M0 t.M1
 LZ:Bm K "next_kind" "Parser.next_kind" LP t.GB t.GC
 TM:Bm K "fail" "Parser.fail" S1 t.M3 t.M4
 TN:Bm K "take" "Parser.take" S2 t.M5 t.M6
 Hb:Bm K "take_new_name" "Parser.take_new_name" HZ t.Dj t.Dk
 JC:Bm K "take_number" "Parser.take_number" Iv t.EY t.EZ
 Hl:Bm K "read_records" "Parser.read_records" Hj t.EA t.EB
 JD:Bm K "read_record" "Parser.read_record" Iw t.Ea t.Eb
 JE:Bm K "read_fields" "Parser.read_fields" Iy t.Ec t.Ed
 MK:Bm K "read_hot" "Parser.read_hot" L8 t.HH t.HI
 DF:Bm K "read_shape" "Parser.read_shape" Jn t.BF t.BG
 Ej:Bm K "read_number_shape" "Parser.read_number_shape" Eh t.Cm t.Cn
 Jt:Bm K "read_value" "Parser.read_value" Jo t.FD t.FE
 Ju:Bm K "read_align" "Parser.read_align" Jp t.FF t.FG
 DX:Bm K "read_one_shape" "Parser.read_one_shape" GW t.Bq t.Br
 E3:Bm K "read_alternative" "Parser.read_alternative" Ey t.B1 t.B2
 E4:Bm K "read_named_shape" "Parser.read_named_shape" Ez t.Cp t.Cq
 TQ:Bm K "__init__" "Search.__init__" S3 t.M7 t.M8
 HS:Bm K "put_next" "Search.put_next" L9 t.CN t.CO
 La:Bm K "is_better" "Search.is_better" LQ t.GD t.GF
 TR:Bm K "__init__" "Reader.__init__" S4 t.M9 t.NA
 N9:Bm K "is_done" "Reader.is_done" N4 t.IJ t.IK
 JF:Bm K "take_number" "Reader.take_number" Iz t.Ee t.Ef
 ML:Bm K "take_row" "Reader.take_row" MA t.HJ t.HK
 TU:Bm K "__init__" "Keeper.__init__" S5 t.NB t.NC
 TV:Bm K "load" "Keeper.load" S6 t.ND t.NF
 VQ:Bm K "fit" "Keeper.fit" VH t.O2 t.O3
 RQ:Bm K "least" "Keeper.least" RL t.K2 t.K3
 TX:Bm K "rule" "Keeper.rule" S7 t.NG t.NH
 RR:Bm K "waste" "Keeper.waste" RM t.K4 t.K5
 Pb:Bm K "orders" "Keeper.orders" PX t.JZ t.Ja
 RS:Bm K "judge" "Keeper.judge" RN t.K6 t.K7
 RT:Bm K "table" "Keeper.table" RO t.K8 t.K9
 Jv:Bm K "refusal_of" "Keeper.refusal_of" Jq t.FH t.FI
 Gb:Bm K "refusal_to_try" "Keeper.refusal_to_try" GX t.DS t.DT
 D6:X5 K t.Kn
 Bu:BK K t.Kn "width"
 Kb:BK K t.Kn "align"
 NO:BK K t.Kn "guards"
 A0:X5 K t.A6
 FP:BK K t.A6 "first"
 GL:BK K t.A6 "last"
 DG:BK K t.A6 "align"
 Be:X5 K t.BO
 Ck:BK K t.BO "inner"
 BE:X5 K t.BS
 Cv:BK K t.BS "times"
 Cw:BK K t.BS "inner"
 BW:X5 K t.BV
 OA:BK K t.BV "names"
 CP:BK K t.BV "inners"
 Bf:X5 K t.BP
 CY:BK K t.BP "record"
 En:X5 K t.IW
 O8:BK K t.IW "name"
 D3:BK K t.IW "shape"
 RB:BK K t.IW "hot"
 Ao:X5 K t.BD
 Ie:BK K t.BD "name"
 Fs:BK K t.BD "fields"
 Ap:BK K t.BD "leaves"
 Je:BK K t.BD "rivals"
 Eo:X5 K t.Co
 VR:BK K t.Co "kind"
 CS:BK K t.Co "written"
 Ig:BK K t.Co "place"
 AL:X5 K t.Al
 Bb:BK K t.Al "tokens"
 BH:BK K t.Al "reached"
 Bg:BK K t.Al "records"
 Ci:X5 K t.EN
 Jf:BK K t.EN "record"
 TY:BK K t.EN "word"
 FQ:BK K t.EN "best_order"
 Dg:BK K t.EN "best_span"
 Bk:X5 K t.Bn
 Ex:BK K t.Bn "numbers"
 B6:BK K t.Bn "reached"
 BB:X5 K t.BX
 A3:BK K t.BX "records"
 RC:t.Ka.code= .ref t.rW
 CD:bW K t.rW t.NW
 NP:K.lookup t.NW=none
 TB:tabIn K "rule_order"=some (t.rW,t.NW)
 FK:Ls K t.BC t.Gq=true
 FN:isFn K (.ref t.Gq)=true
 KC:keepIn K (.ref t.BC)=true
 Xs:∃u,mg "TEXT_TOO_LONG"=some (.int (1) u)
 Oc:∃u,mg "NO_TOKEN"=some (.int (2) u)
 af:∃u,mg "NOT_ALLOWED"=some (.int (3) u)
 Od:∃u,mg "TOO_MANY"=some (.int (4) u)
 eR:∃u,mg "TOLD_TWICE"=some (.int (5) u)
 jm:∃u,mg "NOT_TOLD"=some (.int (6) u)
 Jg:∃u,mg "OUT_OF_BOUNDS"=some (.int (7) u)
 Vs:∃u,mg "TOO_MANY_LEAVES"=some (.int (15) u)
 Xt:∃u,mg "FORM_TOO_LONG"=some (.int (16) u)
 Nt:∃u,mg "NOT_PUT"=some (.int (-1) u)
 qk:∃u,mg "DIGITS"=some (.str "0123456789" u)
 Xu:∃u,mg "SMALL_LETTERS"=some (.str "abcdefghijklmnopqrstuvwxyz" u)
 Xv:∃u,mg "GREAT_LETTERS"=some (.str "ABCDEFGHIJKLMNOPQRSTUVWXYZ" u)
 sX:∃u,mg "SIGNS"=some (.str "{},;:-." u)
 jo:mg "RESERVED"=some (.ref t.ZQ)
 jq:iY K t.ZQ [.str "record",.str "from",.str "to",.str "at",.str "maybe",.str "many",.str "one",.str "hot",.str "layout",.str "size",.str "of"]
 ql:mg "BLANKS"=some (.ref t.gK)
 qm:iY K t.gK [.int 32,.int 9,.int 10]
 gM:∃u,mg "REMARK"=some (.int (35) u)
 jr:∃u,mg "LINE_END"=some (.int (10) u)
 Zp:∃u,mg "LONGEST_NAME"=some (.int (16) u)
 Vt:∃u,mg "GREATEST_NUMBER"=some (.int (1000000000) u)
 ag:∃u,mg "MOST_DIGITS"=some (.int (10) u)
 O9:∃u,mg "MOST_BYTES"=some (.int (4096) u)
 Zq:∃u,mg "MOST_RECORDS"=some (.int (6) u)
 SX:∃u,mg "MOST_ALTERNATIVES"=some (.int (4) u)
 R1:∃u,mg "LEAST_ALTERNATIVES"=some (.int (2) u)
 VS:∃u,mg "MOST_DEPTH"=some (.int (6) u)
 ah:∃u,mg "MOST_LEAVES"=some (.int (24) u)
 VT:∃u,mg "MOST_TIMES"=some (.int (8) u)
 OB:∃u,mg "GREATEST_VALUE"=some (.int (1000000) u)
 nN:∃u,mg "HOTTEST"=some (.int (1000) u)
 eS:mg "ALIGNMENTS"=some (.ref t.VI)
 eT:iY K t.VI [.int 1,.int 2,.int 4,.int 8,.int 16,.int 32]
 vi:∃u,mg "LOAD"=some (.int (0) u)
 yE:∃u,mg "FIT"=some (.int (1) u)
 sY:∃u,mg "LEAST"=some (.int (2) u)
 vj:∃u,mg "RULE"=some (.int (3) u)
 sZ:∃u,mg "WASTE"=some (.int (4) u)
 qo:∃u,mg "ORDERS"=some (.int (5) u)
 sf:∃u,mg "JUDGE"=some (.int (6) u)
 si:∃u,mg "TABLE"=some (.int (7) u)
 VU:∃u,mg "NO_RECORDS"=some (.int (-1) u)
 Wj:∃u,mg "NO_SUCH_RECORD"=some (.int (-2) u)
 RU:∃u,mg "NO_SUCH_WORD"=some (.int (-3) u)
 Xw:∃u,mg "NO_SUCH_ORDER"=some (.int (-4) u)
 Wk:∃u,mg "NO_SUCH_LAYOUT"=some (.int (-4) u)
 Vu:∃u,mg "TOO_MANY_TO_TRY"=some (.int (-6) u)
 XM:∃u,mg "NOT_TRIED"=some (.int (-1) u)
 lT:mg "WORDS"=some (.ref t.lS)
 lU:iY K t.lS [.int 0,.int 8,.int 16,.int 32,.int 64]
 eU:∃u,mg "MOST_TRIED"=some (.int (6) u)
 iB:∃u,mg "MOST_SIZE"=some (.int (128) u)
 eV:∃u,mg "LAST_START"=some (.int (1023) u)
 tM:mg "ValueError"=none
 yF:mg "all"=none
 oQ:mg "any"=none
 vk:mg "dict"=none
 XN:mg "enumerate"=none
 bX:mg "int"=none
 B7:mg "len"=none
 Yn:mg "list"=none
 kR:mg "max"=none
 Si:mg "ord"=none
 SI:mg "range"=none
 gN:mg "sorted"=none
 bY:mg "str"=none
 kT:mg "sum"=none
 oR:mg "zip"=none
section
variable{K:Frag}{mg:Str->Option Value}{t:Bz}
theorem bd1{x qual:Str}{st:Stmt}{f:Addr}{fd:FuncData}{p0:Str}(F:Bm K x qual st f fd)(h:∀(kV doc pm:Value) (an:Option Addr) (He ct a0:Value),bindArgs (fnOf x qual (KW st) (EF st) (AI st) .none kV doc pm an He ct) ⟨[a0],[]⟩=pure (List.zip [p0] [a0]):=by intros;rfl):AW K fd [p0] []:=F.binds λkV doc pm an He ct us hl=>match us,hl with | [a0],_=>h kV doc pm an He ct a0
theorem bd2{x qual:Str}{st:Stmt}{f:Addr}{fd:FuncData}{p0 p1:Str}(F:Bm K x qual st f fd)(h:∀(kV doc pm:Value) (an:Option Addr) (He ct a0 a1:Value),bindArgs (fnOf x qual (KW st) (EF st) (AI st) .none kV doc pm an He ct) ⟨[a0,a1],[]⟩=pure (List.zip [p0,p1] [a0,a1]):=by intros;rfl):AW K fd [p0,p1] []:=F.binds λkV doc pm an He ct us hl=>match us,hl with | [a0,a1],_=>h kV doc pm an He ct a0 a1
theorem bd3{x qual:Str}{st:Stmt}{f:Addr}{fd:FuncData}{p0 p1 p2:Str}(F:Bm K x qual st f fd)(h:∀(kV doc pm:Value) (an:Option Addr) (He ct a0 a1 a2:Value),bindArgs (fnOf x qual (KW st) (EF st) (AI st) .none kV doc pm an He ct) ⟨[a0,a1,a2],[]⟩=pure (List.zip [p0,p1,p2] [a0,a1,a2]):=by intros;rfl):AW K fd [p0,p1,p2] []:=F.binds λkV doc pm an He ct us hl=>match us,hl with | [a0,a1,a2],_=>h kV doc pm an He ct a0 a1 a2
theorem bd4{x qual:Str}{st:Stmt}{f:Addr}{fd:FuncData}{p0 p1 p2 p3:Str}(F:Bm K x qual st f fd)(h:∀(kV doc pm:Value) (an:Option Addr) (He ct a0 a1 a2 a3:Value),bindArgs (fnOf x qual (KW st) (EF st) (AI st) .none kV doc pm an He ct) ⟨[a0,a1,a2,a3],[]⟩=pure (List.zip [p0,p1,p2,p3] [a0,a1,a2,a3]):=by intros;rfl):AW K fd [p0,p1,p2,p3] []:=F.binds λkV doc pm an He ct us hl=>match us,hl with | [a0,a1,a2,a3],_=>h kV doc pm an He ct a0 a1 a2 a3
theorem bd5{x qual:Str}{st:Stmt}{f:Addr}{fd:FuncData}{p0 p1 p2 p3 p4:Str}(F:Bm K x qual st f fd)(h:∀(kV doc pm:Value) (an:Option Addr) (He ct a0 a1 a2 a3 a4:Value),bindArgs (fnOf x qual (KW st) (EF st) (AI st) .none kV doc pm an He ct) ⟨[a0,a1,a2,a3,a4],[]⟩=pure (List.zip [p0,p1,p2,p3,p4] [a0,a1,a2,a3,a4]):=by intros;rfl):AW K fd [p0,p1,p2,p3,p4] []:=F.binds λkV doc pm an He ct us hl=>match us,hl with | [a0,a1,a2,a3,a4],_=>h kV doc pm an He ct a0 a1 a2 a3 a4
variable(Tb:Txt K mg t)
include Tb
theorem nO:AW K t.WI ["span"] []:=bd1 Tb.WU
theorem Kf:AW K t.WK ["record","starts"] []:=bd2 Tb.GS
theorem cg:AW K t.WM ["start","width","word"] []:=bd3 Tb.SQ
theorem aj:AW K t.Mh ["record","starts","word"] []:=bd3 Tb.NK
theorem js:AW K t.T6 ["record","size","starts"] []:=bd3 Tb.UG
theorem iC:AW K t.Qj ["record","number","size","starts"] []:=bd4 Tb.Q6
theorem nP:AW K t.WO ["record","number","other","starts"] []:=bd4 Tb.WV
theorem jt:AW K t.T8 ["bit","align"] []:=bd2 Tb.UH
theorem Gz:AW K t.Kz ["record","order","word"] []:=bd3 Tb.DL
theorem XQ:AW K t.Ql ["record","number","starts","word"] []:=bd4 Tb.Ly
theorem Lb:AW K t.Fy ["record","number","start","starts","word"] []:=bd5 Tb.Df
theorem RE:AW K t.Qn ["record"] []:=bd1 Tb.Io
theorem PB:AW K t.Ka ["record"] []:=bd1 Tb.Gr
theorem Dv:AW K t.JQ ["record","order","word"] []:=bd3 Tb.CQ
theorem ZS:AW K t.UA ["greatest_code"] []:=bd1 Tb.Ob
theorem iD:AW K t.Qp ["leaves","number"] []:=bd2 Tb.Q7
theorem Wl:AW K t.Hz ["leaf","other"] []:=bd2 Tb.IL
theorem iE:AW K t.Qr ["text"] []:=bd1 Tb.Q8
theorem TZ:AW K t.Mj ["text","place"] []:=bd2 Tb.Ic
theorem eW:AW K t.Om ["text","place"] []:=bd2 Tb.O6
theorem ju:AW K t.UC ["text","place"] []:=bd2 Tb.UI
theorem nQ:AW K t.WR ["text","place"] []:=bd2 Tb.WW
theorem iF:AW K t.Qt ["text","place"] []:=bd2 Tb.Q9
theorem RF:AW K t.Qv ["byte"] []:=bd1 Tb.Ip
theorem Kw:AW K t.UE ["byte"] []:=bd1 Tb.Fv
theorem eX:AW K t.Oq ["text"] []:=bd1 Tb.O7
theorem NQ:AW K t.Mm ["record","word"] []:=bd2 Tb.Fc
theorem ak:AW K t.Mo ["leaf_count"] []:=bd1 Tb.NL
theorem Xx:AW K t.JS ["record","span","word"] []:=bd3 Tb.Jb
theorem Ta:AW K t.D0 ["record","span","word","starts"] []:=bd4 Tb.Fd
theorem XR:AW K t.Qx ["record","starts","word"] []:=bd3 Tb.Lz
theorem gO:AW K t.Y4 ["starts","number","start"] []:=bd3 Tb.Uy
theorem ao:AW K t.Mq ["reader","keeper"] []:=bd2 Tb.NM
theorem UN:AW K t.F0 ["call","reader","keeper"] []:=bd3 Tb.GG
theorem NR:AW K t.Ms ["record","starts"] []:=bd2 Tb.Fe
theorem iG:AW K t.Qz ["record","size","starts"] []:=bd3 Tb.RA
theorem LB:AW K t.K1 ["record"] []:=bd1 Tb.EU
theorem PD:AW K t.Ou ["record","word"] []:=bd2 Tb.Gs
theorem aq:AW K t.Mv ["record","span","word"] []:=bd3 Tb.NN
theorem Cc:AW K t.Ov ["self","code","place"] []:=bd3 Tb.VM
theorem RG:AW K t.Q3 ["self","width","align","guards"] []:=bd4 Tb.XJ
theorem UO:AW K t.F2 ["self","first","last","align"] []:=bd4 Tb.LY
theorem Fi:AW K t.DA ["self"] []:=bd1 Tb.DB
theorem FR:AW K t.E9 ["self"] []:=bd1 Tb.FL
theorem Lc:AW K t.F4 ["self","leaves","guards"] []:=bd3 Tb.GH
theorem Ld:AW K t.F6 ["self"] []:=bd1 Tb.GI
theorem MM:AW K t.G4 ["self","inner"] []:=bd2 Tb.MI
theorem Gd:AW K t.DP ["self"] []:=bd1 Tb.DV
theorem Le:AW K t.F8 ["self"] []:=bd1 Tb.GJ
theorem MN:AW K t.G6 ["self","leaves","guards"] []:=bd3 Tb.HM
theorem MO:AW K t.G8 ["self"] []:=bd1 Tb.HN
theorem OC:AW K t.IB ["self","times","inner"] []:=bd3 Tb.N8
theorem Hc:AW K t.Di ["self"] []:=bd1 Tb.Dm
theorem MQ:AW K t.HA ["self"] []:=bd1 Tb.HP
theorem OD:AW K t.ID ["self","leaves","guards"] []:=bd3 Tb.IM
theorem OE:AW K t.IF ["self"] []:=bd1 Tb.IP
theorem Xy:AW K t.JU ["self","names","inners"] []:=bd3 Tb.Pa
theorem JG:AW K t.EX ["self"] []:=bd1 Tb.JB
theorem Hm:AW K t.D9 ["self"] []:=bd1 Tb.EC
theorem OF:AW K t.II ["self"] []:=bd1 Tb.IQ
theorem Pc:AW K t.JW ["self","leaves","guards"] []:=bd3 Tb.Jc
theorem Pd:AW K t.JY ["self"] []:=bd1 Tb.Jd
theorem Vv:AW K t.HC ["self","record"] []:=bd2 Tb.MJ
theorem Ge:AW K t.DR ["self"] []:=bd1 Tb.DW
theorem Lf:AW K t.GA ["self"] []:=bd1 Tb.GK
theorem MR:AW K t.HE ["self","leaves","guards"] []:=bd3 Tb.HQ
theorem MS:AW K t.HG ["self"] []:=bd1 Tb.HR
theorem eY:AW K t.Ox ["self","name","shape","hot"] []:=bd4 Tb.VN
theorem eZ:AW K t.Oz ["self"] []:=bd1 Tb.VO
theorem au:AW K t.Mx ["self","name","fields"] []:=bd3 Tb.TF
theorem CZ:AW K t.FC ["self"] []:=bd1 Tb.Js
theorem DM:AW K t.Gx ["self"] []:=bd1 Tb.RP
theorem Tc:AW K t.Ib ["self","leaves","guards"] []:=bd3 Tb.TH
theorem aw:AW K t.Mz ["self"] []:=bd1 Tb.TJ
theorem Gu:AW K t.O1 ["self","kind","written","place"] []:=bd4 Tb.VP
theorem ax:AW K t.M1 ["self","tokens"] []:=bd2 Tb.TK
theorem Af:AW K t.GC ["self"] []:=bd1 Tb.LZ
theorem CA:AW K t.M4 ["self","code"] []:=bd2 Tb.TM
theorem Ar:AW K t.M6 ["self","kind"] []:=bd2 Tb.TN
theorem Dn:AW K t.Dk ["self","names"] []:=bd2 Tb.Hb
theorem CG:AW K t.EZ ["self","least","greatest"] []:=bd3 Tb.JC
theorem P2:AW K t.EB ["self"] []:=bd1 Tb.Hl
theorem R4:AW K t.Eb ["self"] []:=bd1 Tb.JD
theorem R5:AW K t.Ed ["self"] []:=bd1 Tb.JE
theorem Vw:AW K t.HI ["self"] []:=bd1 Tb.MK
theorem By:AW K t.BG ["self","depth"] []:=bd2 Tb.DF
theorem Ek:AW K t.Cn ["self"] []:=bd1 Tb.Ej
theorem Jw:AW K t.FE ["self"] []:=bd1 Tb.Jt
theorem SY:AW K t.FG ["self"] []:=bd1 Tb.Ju
theorem Gf:AW K t.Br ["self","depth"] []:=bd2 Tb.DX
theorem E5:AW K t.B2 ["self","inners","depth"] []:=bd3 Tb.E3
theorem E6:AW K t.Cq ["self"] []:=bd1 Tb.E4
theorem ay:AW K t.M8 ["self","record","word"] []:=bd3 Tb.TQ
theorem MT:AW K t.CO ["self","order","starts","span"] []:=bd4 Tb.HS
theorem UP:AW K t.GF ["self","span"] []:=bd2 Tb.La
theorem bA:AW K t.NA ["self","numbers"] []:=bd2 Tb.TR
theorem Wm:AW K t.IK ["self"] []:=bd1 Tb.N9
theorem Bp:AW K t.Ef ["self"] []:=bd1 Tb.JF
theorem HU:AW K t.HK ["self"] []:=bd1 Tb.ML
theorem bB:AW K t.NC ["self"] []:=bd1 Tb.TU
theorem bC:AW K t.NF ["self","text"] []:=bd2 Tb.TV
theorem fA:AW K t.O3 ["self","r","w","order"] []:=bd4 Tb.VQ
theorem Zr:AW K t.K3 ["self","r","w"] []:=bd3 Tb.RQ
theorem bD:AW K t.NH ["self","r","w"] []:=bd3 Tb.TX
theorem Zs:AW K t.K5 ["self","r","w"] []:=bd3 Tb.RR
theorem Xz:AW K t.Ja ["self","r","w"] []:=bd3 Tb.Pb
theorem Zt:AW K t.K7 ["self","r","w","n","starts"] []:=bd5 Tb.RS
theorem Zu:AW K t.K9 ["self","w"] []:=bd2 Tb.RT
theorem DH:AW K t.FI ["self","r","w"] []:=bd3 Tb.Jv
theorem DY:AW K t.DT ["self","r","w"] []:=bd3 Tb.Gb
end
theorem scK{N P:List Str}{sc:Scope}(h:sc.kind= .function/\sc.isCoroutine=false/\sc.isGenerator=false/\N.Nodup/\N.take P.length=P/\(∀x∈P,sc.names.lookup x=some .local\/sc.names.lookup x=some .cell)/\∀y∈sc.names,y.2≠ .free:=by decide+kernel):AN N P sc:=let ⟨a,b,c,d,e,f,g⟩:=h;⟨a,b,c,d,e,f,g⟩
theorem jv:AN ["span"] ["span"] (AI cU):=scK
theorem ZT:AN ["record","starts","start","leaf"] ["record","starts"] (AI cV):=scK
theorem jw:AN ["start","width","word"] ["start","width","word"] (AI cW):=scK
theorem RW:AN ["record","starts","word","start","leaf"] ["record","starts","word"] (AI Sn):=scK
theorem XS:AN ["record","size","starts","number"] ["record","size","starts"] (AI ZL):=scK
theorem VV:AN ["record","number","size","starts","leaf","start","rival"] ["record","number","size","starts"] (AI W4):=scK
theorem ZU:AN ["record","number","other","starts","start","other_start"] ["record","number","other","starts"] (AI cX):=scK
theorem iH:AN ["bit","align"] ["bit","align"] (AI ZM):=scK
theorem Pe:AN ["record","order","word","starts","number"] ["record","order","word"] (AI RI):=scK
theorem VW:AN ["record","number","starts","word","align","start","free"] ["record","number","starts","word"] (AI W5):=scK
theorem Jx:AN ["record","number","start","starts","word","width","rival","taken","free"] ["record","number","start","starts","word"] (AI LI):=scK
theorem fB:AN ["record"] ["record"] (AI W6):=scK
theorem Td:AN ["record","leaves"] ["record"] (AI Gp):=scK
theorem Wn:AN ["record","order","word"] ["record","order","word"] (AI PN):=scK
theorem iI:AN ["greatest_code"] ["greatest_code"] (AI ZN):=scK
theorem VX:AN ["leaves","number","rivals","other"] ["leaves","number"] (AI W7):=scK
theorem MU:AN ["leaf","other","codes","tag","code"] ["leaf","other"] (AI Nz):=scK
theorem VY:AN ["text","tokens","place","token"] ["text"] (AI W8):=scK
theorem RX:AN ["text","place"] ["text","place"] (AI So):=scK
theorem Tf:AN ["text","place"] ["text","place"] (AI VA):=scK
theorem XT:AN ["text","place","sign"] ["text","place"] (AI ZO):=scK
theorem ZV:AN ["text","place","end","written","byte"] ["text","place"] (AI cY):=scK
theorem VZ:AN ["text","place","end","written","byte"] ["text","place"] (AI W9):=scK
theorem Va:AN ["byte"] ["byte"] (AI XA):=scK
theorem XU:AN ["byte"] ["byte"] (AI ZP):=scK
theorem Tg:AN ["text","records","record"] ["text"] (AI VB):=scK
theorem RY:AN ["record","word","search"] ["record","word"] (AI Sq):=scK
theorem RZ:AN ["leaf_count","orders","number"] ["leaf_count"] (AI Sr):=scK
theorem Wo:AN ["record","span","word"] ["record","span","word"] (AI PQ):=scK
theorem LC:AN ["record","span","word","starts","fits","ways","number","start"] ["record","span","word","starts"] (AI Ss):=scK
theorem Vb:AN ["record","starts","word","waiting","number","start"] ["record","starts","word"] (AI XB):=scK
theorem nR:AN ["starts","number","start"] ["starts","number","start"] (AI gJ):=scK
theorem ZW:AN ["calls","reader","keeper","told","answer"] ["calls"] (AI cZ):=scK
theorem Ra:AN ["reader","keeper","call"] ["reader","keeper"] (AI Su):=scK
theorem Jy:AN ["call","reader","keeper","r","w","n"] ["call","reader","keeper"] (AI LJ):=scK
theorem Zv:AN ["record","starts"] ["record","starts"] (AI Sv):=scK
theorem Vc:AN ["record","size","starts","start"] ["record","size","starts"] (AI XC):=scK
theorem X0:AN ["record"] ["record"] (AI RJ):=scK
theorem bE:AN ["record","word"] ["record","word"] (AI VC):=scK
theorem Zw:AN ["record","span","word"] ["record","span","word"] (AI Sw):=scK
theorem Th:AN ["self","code","place"] ["self","code","place"] (AI VD):=scK
theorem fC:AN ["self","width","align","guards"] ["self","width","align","guards"] (AI XE):=scK
theorem Sa:AN ["self","first","last","align"] ["self","first","last","align"] (AI LK):=scK
theorem E7:AN ["self"] ["self"] (AI Fg):=scK
theorem JH:AN ["self"] ["self"] (AI Jl):=scK
theorem Jz:AN ["self","leaves","guards"] ["self","leaves","guards"] (AI LL):=scK
theorem FU:AN ["self","form"] ["self"] (AI LM):=scK
theorem UQ:AN ["self","inner"] ["self","inner"] (AI L0):=scK
theorem Fj:AN ["self"] ["self"] (AI GU):=scK
theorem J0:AN ["self"] ["self"] (AI LN):=scK
theorem GN:AN ["self","leaves","guards","tag"] ["self","leaves","guards"] (AI L1):=scK
theorem Lg:AN ["self"] ["self"] (AI L3):=scK
theorem Vx:AN ["self","times","inner"] ["self","times","inner"] (AI N0):=scK
theorem Gg:AN ["self"] ["self"] (AI HY):=scK
theorem Lh:AN ["self"] ["self"] (AI L4):=scK
theorem HV:AN ["self","leaves","guards","turn"] ["self","leaves","guards"] (AI N1):=scK
theorem MV:AN ["self"] ["self"] (AI N2):=scK
theorem Wq:AN ["self","names","inners"] ["self","names","inners"] (AI PR):=scK
theorem P4:AN ["self"] ["self"] (AI Iu):=scK
theorem Dq:AN ["self","inner"] ["self"] (AI Hi):=scK
theorem HW:AN ["self","inner"] ["self"] (AI N3):=scK
theorem IS:AN ["self","leaves","guards","tag","code","inner"] ["self","leaves","guards"] (AI PU):=scK
theorem IT:AN ["self","told","name","inner"] ["self"] (AI PV):=scK
theorem UR:AN ["self","record"] ["self","record"] (AI L5):=scK
theorem Fl:AN ["self"] ["self"] (AI GV):=scK
theorem KA:AN ["self"] ["self"] (AI LO):=scK
theorem Li:AN ["self","leaves","guards"] ["self","leaves","guards"] (AI L6):=scK
theorem Lj:AN ["self"] ["self"] (AI L7):=scK
theorem bF:AN ["self","name","shape","hot"] ["self","name","shape","hot"] (AI VE):=scK
theorem bG:AN ["self"] ["self"] (AI VF):=scK
theorem Rb:AN ["self","name","fields","number"] ["self","name","fields"] (AI Sx):=scK
theorem R6:AN ["self"] ["self"] (AI Jm):=scK
theorem Pf:AN ["self","field"] ["self"] (AI RK):=scK
theorem Rc:AN ["self","leaves","guards","field"] ["self","leaves","guards"] (AI Sy):=scK
theorem Rf:AN ["self","field"] ["self"] (AI Sz):=scK
theorem bH:AN ["self","kind","written","place"] ["self","kind","written","place"] (AI VG):=scK
theorem Zx:AN ["self","tokens"] ["self","tokens"] (AI S0):=scK
theorem Sb:AN ["self"] ["self"] (AI LP):=scK
theorem Zy:AN ["self","code"] ["self","code"] (AI S1):=scK
theorem Zz:AN ["self","kind"] ["self","kind"] (AI S2):=scK
theorem OL:AN ["self","names"] ["self","names"] (AI HZ):=scK
theorem P5:AN ["self","least","greatest"] ["self","least","greatest"] (AI Iv):=scK
theorem Hd:AN ["self","record"] ["self"] (AI Hj):=scK
theorem Hn:AN ["self","place","name","fields","field"] ["self"] (AI Iw):=scK
theorem Ho:AN ["self","fields","name","shape"] ["self"] (AI Iy):=scK
theorem US:AN ["self"] ["self"] (AI L8):=scK
theorem CI:AN ["self","depth","times"] ["self","depth"] (AI Jn):=scK
theorem EJ:AN ["self","first","last"] ["self"] (AI Eh):=scK
theorem R7:AN ["self"] ["self"] (AI Jo):=scK
theorem R8:AN ["self"] ["self"] (AI Jp):=scK
theorem DC:AN ["self","depth","inners"] ["self","depth"] (AI GW):=scK
theorem El:AN ["self","inners","depth","name"] ["self","inners","depth"] (AI Ey):=scK
theorem Lm:AN ["self"] ["self"] (AI Ez):=scK
theorem Z0:AN ["self","record","word"] ["self","record","word"] (AI S3):=scK
theorem GO:AN ["self","order","starts","span","number","start","reached"] ["self","order","starts","span"] (AI L9):=scK
theorem Sd:AN ["self","span"] ["self","span"] (AI LQ):=scK
theorem Z1:AN ["self","numbers"] ["self","numbers"] (AI S4):=scK
theorem Vy:AN ["self"] ["self"] (AI N4):=scK
theorem P6:AN ["self"] ["self"] (AI Iz):=scK
theorem Lk:AN ["self","length"] ["self"] (AI MA):=scK
theorem Z2:AN ["self"] ["self"] (AI S5):=scK
theorem Rg:AN ["self","text","records","fault","record"] ["self","text"] (AI S6):=scK
theorem Ti:AN ["self","r","w","order","refusal","record","starts"] ["self","r","w","order"] (AI VH):=scK
theorem Pg:AN ["self","r","w","refusal","record","starts"] ["self","r","w"] (AI RL):=scK
theorem Rh:AN ["self","r","w","refusal","record","starts"] ["self","r","w"] (AI S7):=scK
theorem Ph:AN ["self","r","w","refusal","record","span","ruled","own"] ["self","r","w"] (AI RM):=scK
theorem OG:AN ["self","r","w","refusal","record","order","span"] ["self","r","w"] (AI PX):=scK
theorem Pj:AN ["self","r","w","n","starts","refusal","record","span"] ["self","r","w","n","starts"] (AI RN):=scK
theorem Pk:AN ["self","w","told","record"] ["self","w"] (AI RO):=scK
theorem R9:AN ["self","r","w"] ["self","r","w"] (AI Jq):=scK
theorem Fm:AN ["self","r","w","refusal"] ["self","r","w"] (AI GX):=scK
abbrev FO(P:Program)(w:World)(K:Frag)(mg:Str->Option Value)(AJ:Heap)(t:Bz):=Ih P w K mg AJ (Wu P w t.BC)
abbrev FT{K:Frag}{mg:Str->Option Value}{t:Bz}(P:Program)(w:World)(AJ:Heap)(_:Txt K mg t):=Ih P w K mg AJ (Wu P w t.BC)
end Pr
namespace L2
open PySem PySem.Spec PyProof.Rows
theorem A4.ne{K:Frag}{H:Hp}{a D:Addr}{xs ys:List V}(h:A4 K H a xs)(n:H D=none)(hne:a≠D\/∃o,H a=some o):A4 K (upd H D (.lst ys)) a xs:=by
 by_cases z:a=D
 ·rcases hne with q | ⟨o,q⟩
  ·exact absurd z q
  ·rw[z,n] at q;cases q
 ·rcases h with(h | ⟨o,h⟩) | h
  ·exact .inl (.inl (by rw[AM z];exact h))
  ·exact .inl (.inr ⟨o,by rw[AM z];exact h⟩)
  ·exact .inr h
theorem uR{K:Frag}{a:Addr}{xs:List V}{j:Nat}{te:TE}{σ:St}{H1:Hp}{D:Addr}{Qd:Hp->Prop}(f:V->V)(hS:A4 K H1 a xs)(ha:a≠D)(hn:xs.length<sizeLine)(hD:H1 D=none)
  (he:∀x ys Q,x∈xs->Q (f x) (upd H1 D (.lst ys))->te ((σ.set j none).set j (some x)) (upd H1 D (.lst ys)) Q) (hd:Qd (upd H1 D (.lst (xs.map f)))):
  ∃W:Nat->Nat->Hp->Prop,(∃m,W 0 m (upd H1 D (.lst [])))/\∀i m H,W i m H->
   ((kD K a).stop i H/\Qd H)\/((kD K a).go i H/\∃Nx:Hp->Prop,(∀H',Nx H'->∃m',m'<m/\W (i+1) m' H')/\∀x H',(kD K a).iU i H x H'->QD j x (B0 σ [j]) H' λσ2 H2=>B0 σ2 [j]=B0 σ [j]/\aP σ2 H2 λb H3=>if b=true then te σ2 H3 λy H4=>∃acc,H4 D=some (.lst acc)/\acc.length<sizeLine/\Nx (upd H4 D (.lst (acc++ [y]))) else Nx H3):=by
 refine de (K:=K) (a:=a) (xs:=xs) (λi H=>H=upd H1 D (.lst ((xs.take i).map f))) rfl (λi H _ e=>by rw[e];exact hS.ne hD (.inl ha)) (λi x H hx e=> ?_) λH e=>by rw[e,take_length];exact hd
 subst e;have ew:B0 σ [j]=σ.set j none:=rfl;refine⟨by simp[B0,set_set],?_⟩;simp only[aP,if_true,ew];refine he x _ _ (mem_of_getElem? hx) ⟨_,AG,?_,?_⟩
 ·rw[length_map,length_take];exact Nat.lt_of_le_of_lt (Nat.min_le_right _ _) hn
 ·obtain⟨h1,h2⟩:=List.getElem?_eq_some_iff.mp hx;rw[BR,take_add_one,hx,map_append];rfl
theorem AR.new{H:Hp}{x dx:Addr}{o u:HO}(nx:H x=none)(nd:H dx=none):AR H (upd (upd H dx o) x u):=λb q e=>by rw[AM (Ax e nx),AM (Ax e nd)];exact e
theorem AR.upd{H:Hp}{x:Addr}{o:HO}(nx:H x=none):AR H (upd H x o):=λb q e=>by rw[AM (Ax e nx)];exact e
end L2
section
open PySem PySem.Spec PyProof.Rows L2
local macro_rules | `(tactic| walk_at "rd") => `(tactic| (try dsimp only [rJ,L2.V1,L2.aI,L2.c5,rN,xD,oK,iy,yd,t7,mL,tC,ue,tS,rI,rU,zJ,xC,wm,tj,oA,QD,xG,zI,tm,L2.start,zK,zL,w9,zH,xA,tB,t8,oM,oN,xN,xO,vd,uk,ye,tY,xB,tZ,xJ,uj,kb,xM,o9,yh,xc,ku,uD,uE,o7,zP,kj,tq,zN,uA,xP,aP,pC,uM,pB,xQ,uN,zS,dO,xV,xW,xX,xY,gD,xT,xU,kl,rO,kI,ug,xF,uB,tu,uF,xf,xZ,List.map,List.cons_append,nil_append,List.getElem?_cons_zero,List.getElem?_cons_succ,length_cons,length_nil,replicate_succ,List.replicate_zero,List.set_cons_zero,List.set_cons_succ,Nat.reduceSub,Nat.reduceAdd]); (try simp only [ou,L2.oo,L2.oq,L2.ot,map_cons,map_nil,List.cons_append,nil_append,append_nil,List.getElem?_cons_zero,List.getElem?_cons_succ,length_cons,length_nil,length_map,replicate_succ,List.replicate_zero,List.set_cons_zero,List.set_cons_succ,Nat.reduceSub,Nat.reduceAdd,zero_add,Option.some.injEq,exists_eq_left',V.int.injEq,V.bl.injEq,V.str.injEq,V.ref.injEq,List.cons.injEq,and_assoc,and_true,true_and,exists_eq_left,exists_and_left,decide_eq_true_eq,Bool.not_eq_true',decide_eq_false_iff_not,Bool.false_eq_true,if_false,if_true]))
variable{P:PySem.Program}{w:PySem.World}{K:PySem.W.Frag}{mg:PySem.Str->Option PySem.Value}{AJ:PySem.Heap}{t:Pr.Bz}{H H' H0 H1 H2:L2.Hp}{Q Q' Q0:L2.VK}{ns s:List Int}{C D G L a b d dx l lf ll lr p r:PySem.Addr}{c i j n:Nat}{x y:ValayBase.PTok}{m q:PySem.Str}{as:List PySem.Addr}{ts:ValayBase.Toks}{E:L2.XK}{zs:List (ValayBase.PName×Nat×Valaya.Ty)}{AS rs:List Valaya.Rec}{X:L2.Cx}{vs xs ys:List L2.V}{fd:PySem.FuncData}{ps:List PySem.Str}{ty:Valaya.Ty}(T:Pr.Txt K mg t)
namespace Pr
open PySem PySem.Spec PyProof.Rows L2
section
def YT(b:Int):List Nat:=if (97<=b/\b<=122)\/(65<=b/\b<=90) then [b.toNat] else []
def Tv(b:Int):List Nat:=if 48<=b/\b<=57 then [b.toNat] else []
abbrev Gj(l:List Nat):Str:=⟨l.toArray⟩
inductive Vd(vs:List V)(H:Hp)(Q:VK)(E:XK):Prop | mk:∀b:Int,vs=[.int b]->Q (.str (Gj (YT b))) H->Vd vs H Q E
inductive XW(vs:List V)(H:Hp)(Q:VK)(E:XK):Prop | mk:∀b:Int,vs=[.int b]->Q (.str (Gj (Tv b))) H->XW vs H Q E
theorem jC(z:Str)(lo:Nat)(n:Nat)(b:Int)(hz:∀i,i<n->z.cps.toList[i]?=some (lo+i))(hl:z.cps.toList.length=n)(h1:(lo:Int)<=b)(h2:b<lo+n)(hs:n<=1000)(q:Q (.str (Gj [b.toNat])) H):
  um (V.str z) (V.int (b - lo)) H Q:=by
 refine⟨z,b - lo,b.toNat,rfl,rfl,?_,?_,q⟩
 ·rw[show z.length=z.cps.toList.length from rfl,hl,sizeLine_eq];lia
 ·have e:b - lo=((b.toNat - lo:Nat):Int):=by lia
  rw[e];refine Fp ?_;rw[hz _ (by lia)];congr 1;lia
theorem Iq:FT P w AJ T 1 t.UD t.UE ["byte"] XW:=by
 refine T.Fv.Cr XU ?_;rintro _ A _ s H _ Q E hr ⟨b,rfl,q⟩;have nd:=XU.nd;refine⟨_,(AD (Ay (Nd Jj Jj (AZ FY rfl T.Si boot_ord (AB Ah AE)) (pv 0) (AZ FY rfl T.Si boot_ord (AB Ah AE))) (AH (AO (BY i5 (kK T.qk) (An D5 (pv 0) (AZ FY rfl T.Si boot_ord (AB Ah AE))) (λ_ _=>rfl)))) AX)
   (AH (AO Ah))),?_⟩
 walk_at "rd";have e1:((Str.ofString "0").cps.getD 0 0:Nat)=48:=by decide+kernel
 have e2:((Str.ofString "9").cps.getD 0 0:Nat)=57:=by decide+kernel
 rw[e1,e2];unfold Tv at q;refine⟨by decide+kernel,Az (λh1=>⟨by decide+kernel,Az (λh2=>⟨by decide+kernel,?_⟩) λh2=> ?_⟩) λh1=> ?_⟩
 ·rw[if_pos (by lia)] at q;exact jC _ 48 10 b (by decide+kernel) (by decide+kernel) h1 (by lia) (by decide) q
 ·rw[if_neg (by lia)] at q;exact q
 ·rw[if_neg (by lia)] at q;exact q
theorem PF:FT P w AJ T 1 t.Qu t.Qv ["byte"] Vd:=by
 refine T.Ip.Cr Va ?_;rintro _ A _ s H _ Q E hr ⟨b,rfl,q⟩;have nd:=Va.nd;refine⟨_,(AD (Ay (Nd Jj Jj (AZ FY rfl T.Si boot_ord (AB Ah AE)) (pv 0) (AZ FY rfl T.Si boot_ord (AB Ah AE))) (AH (AO (BY i5 (kK T.Xu) (An D5 (pv 0) (AZ FY rfl T.Si boot_ord (AB Ah AE))) (λ_ _=>rfl)))) AX)
   (AD (Ay (Nd Jj Jj (AZ FY rfl T.Si boot_ord (AB Ah AE)) (pv 0) (AZ FY rfl T.Si boot_ord (AB Ah AE))) (AH (AO (BY i5 (kK T.Xv) (An D5 (pv 0) (AZ FY rfl T.Si boot_ord (AB Ah AE))) (λ_ _=>rfl)))) AX)
   (AH (AO Ah)))),?_⟩
 walk_at "rd";have e1:((Str.ofString "a").cps.getD 0 0:Nat)=97:=by decide+kernel
 have e2:((Str.ofString "z").cps.getD 0 0:Nat)=122:=by decide+kernel
 have e3:((Str.ofString "A").cps.getD 0 0:Nat)=65:=by decide+kernel
 have e4:((Str.ofString "Z").cps.getD 0 0:Nat)=90:=by decide+kernel
 rw[e1,e2,e3,e4];unfold YT at q;have big:((65:Int)<=b/\b<=90->Q (.str (Gj [b.toNat])) H)->(¬((65:Int)<=b/\b<=90)->Q (.str (Gj [])) H)->(Str.ofString "A").length=1/\if ((65:Nat):Int)<=b then(Str.ofString "Z").length=1/\if b<=((90:Nat):Int) then
   (Str.ofString "A").length=1/\um (V.str (Str.ofString "ABCDEFGHIJKLMNOPQRSTUVWXYZ")) (V.int (b - ((65:Nat):Int))) H Q else Q (V.str (Str.ofString "")) H
   else Q (V.str (Str.ofString "")) H:=λqa qb=>
  ⟨by decide+kernel,Az (λh1=>⟨by decide+kernel,Az (λh2=>⟨by decide+kernel,
   jC _ 65 26 b (by decide+kernel) (by decide+kernel) h1 (by lia) (by decide) (qa (by lia))⟩) λh2=>qb (by lia)⟩) λh1=>qb (by lia)⟩
 refine⟨by decide+kernel,Az (λh1=>⟨by decide+kernel,Az (λh2=>⟨by decide+kernel,?_⟩) λh2=> ?_⟩) λh1=> ?_⟩
 ·rw[if_pos (by lia)] at q;exact jC _ 97 26 b (by decide+kernel) (by decide+kernel) h1 (by lia) (by decide) q
 ·exact big (λz=>by rw[if_pos (by lia)] at q;exact q) λz=>by rw[if_neg (by lia)] at q;exact q
 ·exact big (λz=>by rw[if_pos (by lia)] at q;exact q) λz=>by rw[if_neg (by lia)] at q;exact q
end
section
def wy(σ:L2.St)(i:Nat):Nat:=match σ[i]? with
 |some (some (.int z))=>z.toNat
 |_=>0
theorem pR{p:Nat}(h:p<ns.length):∃z,ns[p]?=some z/\iR (ns.map V.int) (p:Int)=some (.int z):=
 ⟨ns[p],getElem?_eq_getElem h,Fp (by rw[getElem?_map,getElem?_eq_getElem h];rfl)⟩
theorem Fq{α:Type}{l:List α}{p:Nat}{z:α}(h:l[p]?=some z):l.drop p=z::l.drop (p+1):=by obtain⟨h1,e⟩:=List.getElem?_eq_some_iff.mp h;rw[List.drop_eq_getElem_cons h1,e]
def EM(ns:List Int)(p:Nat):Nat:=p+((ns.drop p).takeWhile (λz=>decide (z≠10))).length
theorem jx{p:Nat}(h:¬p<ns.length):EM ns p=p:=by unfold EM;rw[drop_eq_nil_of_le (by lia)];rfl
theorem iJ{p:Nat}(h:ns[p]?=some 10):EM ns p=p:=by unfold EM;rw[Fq h];simp
theorem WX{p:Nat}{z:Int}(h:ns[p]?=some z)(hz:z≠10):EM ns (p+1)=EM ns p:=by unfold EM;rw[Fq h,takeWhile_cons,if_pos (by simp[hz]),length_cons];lia
inductive Tj(K:Frag)(vs:List V)(H:Hp)(Q:VK)(E:XK):Prop | mk:∀(a:Addr) (ns:List Int) (p:Nat),vs=[.ref a,.int p]->A4 K H a (ns.map V.int)->Q (.int (EM ns p:Nat)) H->Tj K vs H Q E
theorem bI:FT P w AJ T 1 t.Ol t.Om ["text","place"] (Tj K):=by
 refine T.O6.Cr Tf ?_;rintro _ A _ s H _ Q E hr ⟨a,ns,p,rfl,hS,q⟩;have nd:=Tf.nd;refine⟨_,(AD (FX PassesOwn.never (PW.pt (JK (AU GR (pv 1) (AZ Ak rfl T.B7 PySem.boot_len (AB (pv 0) AE)) (AY _)) (Fo (AU FV (BY Av (pv 0) (pv 1) (λ_ _=>rfl)) (A9 T.jr) (AY _))))) (AH (Tx (i:=1) nd rfl (Or.inl rfl) Aj Ye)))
   (AH (AO (pv 1)))),?_⟩
 walk_at "rd";refine KY (λσ H'=>H'=H/\∃p':Nat,σ=[some (.ref a),some (.int p')]/\EM ns p'=EM ns p) (λσ _=>ns.length - wy σ 1) ⟨rfl,p,rfl,rfl⟩ ?_;rintro σ H' ⟨rfl,p',rfl,e⟩;walk_at "rd";refine⟨_,.inl hS,Az (λh1=> ?_) λh1=> ?_⟩
 ·have h1:p'<ns.length:=by simpa using h1
  obtain⟨z,ez,az⟩:=pR h1;refine⟨_,⟨_,hS,az⟩,rfl,Az (λh2=>NZ ⟨⟨rfl,p'+1,rfl,?_⟩,?_⟩) λh2=> ?_⟩
  ·have h2:z≠10:=by simpa using h2
   rw[WX ez h2];exact e
  ·show ns.length - (p'+1)<ns.length - p'
   lia
  ·have h2:z=10:=by simpa using h2
   subst h2;rw[<-e,iJ ez] at q;exact q
 ·have h1:¬p'<ns.length:=by simpa using h1
  rw[<-e,jx h1] at q;exact q
theorem nS{p:Nat}(h:ns[p]?=some 35):p<EM ns p:=by rw[<-WX h (by decide)];unfold EM;lia
def mR(z:Int):Bool:=z==32 || (z==9 || z==10)
inductive OR(ns:List Int):Nat->Nat->Prop
 |stop {p:Nat} (h:ns[p]?=none\/∃z,ns[p]?=some z/\mR z=false/\z≠35):OR ns p p
 |blank {p q:Nat} {z:Int} (h:ns[p]?=some z) (hz:mR z=true) (r:OR ns (p+1) q):OR ns p q
 |rem {p q:Nat} (h:ns[p]?=some 35) (r:OR ns (EM ns p) q):OR ns p q
inductive Ri(K:Frag)(vs:List V)(H:Hp)(Q:VK)(E:XK):Prop | mk:∀(a:Addr) (ns:List Int) (p:Nat),vs=[.ref a,.int p]->A4 K H a (ns.map V.int)->(∀q,OR ns p q->Q (.int (q:Nat)) H)->Ri K vs H Q E
theorem Rj:FT P w AJ T 2 t.Mi t.Mj ["text","place"] (Ri K):=by
 refine T.Ic.Cr RX ?_;rintro _ A _ s H _ Q E hr ⟨a,ns,p,rfl,hS,q⟩;have nd:=RX.nd;refine⟨_,(AD (FX PassesOwn.never (PW.pt (JK (AU GR (pv 1) (AZ Ak rfl T.B7 PySem.boot_len (AB (pv 0) AE)) (AY _)) (Fo (PW.pt (Wv (AU bt (BY Av (pv 0) (pv 1) (λ_ _=>rfl)) (fW T.ql) (by with_unfolding_all rfl)) (QF (AU B3 (BY Av (pv 0) (pv 1) (λ_ _=>rfl)) (A9 T.gM) (AY _)))))))) (AH (Ay (AU B3 (BY Av (pv 0) (pv 1) (λ_ _=>rfl)) (A9 T.gM) (AY _)) (AH (ps_sl 1 nd (AV (bI T) hr.lt rfl T.eN T.O6.kp (eW T) .nil AK (AB (pv 0) (AB (pv 1) AE))))) (AH (Tx (i:=1) nd rfl (Or.inl rfl) Aj Ye)))))
   (AH (AO (pv 1)))),?_⟩
 walk_at "rd";refine KY (λσ H'=>H'=H/\∃p':Nat,σ=[some (.ref a),some (.int p')]/\∀q,OR ns p' q->OR ns p q) (λσ _=>ns.length - wy σ 1) ⟨rfl,p,rfl,λ_ z=>z⟩ ?_;rintro σ H' ⟨rfl,p',rfl,e⟩;walk_at "rd";refine⟨_,.inl hS,Az (λh1=> ?_) λh1=> ?_⟩
 ·have h1:p'<ns.length:=by simpa using h1
  obtain⟨z,ez,az⟩:=pR h1;refine⟨_,⟨_,hS,az⟩,_,.inr (T.qm.sq H'),rfl,by decide,?_⟩;have e0:mI (V.int z) [V.int 32,V.int 9,V.int 10]=mR z:=by simp only[mI,any_cons,any_nil,mH,mR,Bool.or_false];rw[Bool.eq_iff_iff];simp;lia
  rw[e0];refine Az (λh2=>NZ ⟨_,⟨_,hS,az⟩,rfl,Az (λh3=> ?_) λh3=>⟨⟨rfl,p'+1,rfl,λq r=>e q (.blank ez h2 r)⟩,?_⟩⟩) λh2=>⟨_,⟨_,hS,az⟩,rfl,Az (λh3=>NZ ⟨_,⟨_,hS,az⟩,rfl,Az (λh4=> ?_) λh4=>absurd h3 h4⟩) λh3=> ?_⟩
  ·cases h3;cases h2
  ·show ns.length - (p'+1)<ns.length - p'
   lia
  ·cases h3;have gt:=nS ez;refine⟨a,ns,p',rfl,hS,⟨rfl,EM ns p',rfl,λq r=>e q (.rem ez r)⟩,?_⟩;show ns.length - EM ns p'<ns.length - p'
   lia
  ·refine q _ (e _ (.stop (.inr ⟨z,ez,by simpa using h2,by simpa using h3⟩)))
 ·have h1:¬p'<ns.length:=by simpa using h1
  exact q _ (e _ (.stop (.inl (getElem?_eq_none (by lia)))))
end
section
inductive Ko(C:Addr)(n:Nat)(fs:List V->List (Str×V))(vs:List V)(H:Hp)(Q:VK)(E:XK):Prop | mk:∀p dx args,vs= .ref p::args->args.length=n->H p=some (.ins C dx [])->Q .Fn (upd H p (.ins C dx (fs args)))->Ko C n fs vs H Q E
theorem zT{l:List V}(e:l.length=1):∃a,l=[a]:=List.length_eq_one_iff.mp e
theorem ln2{l:List V}(e:l.length=2):∃a b,l=[a,b]:=by
 match l,e with
 | [a,b],_=>exact⟨a,b,rfl⟩
theorem yX{l:List V}(e:l.length=3):∃a b c,l=[a,b,c]:=by
 match l,e with
 | [a,b,c],_=>exact⟨a,b,c,rfl⟩
def jD(args:List V):List (Str×V):=List.zip ["kind","written","place"] args
theorem Ff:FT P w AJ T 1 t.O0 t.O1 ["self","kind","written","place"] (Ko t.Co 3 jD):=by
 refine T.VP.Cr bH ?_;rintro _ A _ s H _ Q E hr ⟨p,dx,args,rfl,e,hp,q⟩;obtain⟨x0,x1,x2,rfl⟩:=yX e;refine⟨_,(AD (BZ (pv 0) (pv 1) rfl)
   (AD (BZ (pv 0) (pv 2) rfl)
   (AH (BZ (pv 0) (pv 3) rfl)))),?_⟩
 walk_at "rd";refine⟨_,⟨_,_,_,hp,T.Eo,T.VR,(by show 0<1000;decide),rfl⟩,_,⟨_,_,_,AG,T.Eo,T.CS,(by show 1<1000;decide),rfl⟩,_,⟨_,_,_,AG,T.Eo,T.Ig,(by show 2<1000;decide),rfl⟩,?_⟩;rw[BR,BR];exact q
def fY(args:List V):List (Str×V):=List.zip ["width","align","guards"] args
theorem PH:FT P w AJ T 1 t.Q2 t.Q3 ["self","width","align","guards"] (Ko t.Kn 3 fY):=by
 refine T.XJ.Cr fC ?_;rintro _ A _ s H _ Q E hr ⟨p,dx,args,rfl,e,hp,q⟩;obtain⟨x0,x1,x2,rfl⟩:=yX e;refine⟨_,(AD (BZ (pv 0) (pv 1) rfl)
   (AD (BZ (pv 0) (pv 2) rfl)
   (AH (BZ (pv 0) (pv 3) rfl)))),?_⟩
 walk_at "rd";refine⟨_,⟨_,_,_,hp,T.D6,T.Bu,(by show 0<1000;decide),rfl⟩,_,⟨_,_,_,AG,T.D6,T.Kb,(by show 1<1000;decide),rfl⟩,_,⟨_,_,_,AG,T.D6,T.NO,(by show 2<1000;decide),rfl⟩,?_⟩;rw[BR,BR];exact q
def Ve(args:List V):List (Str×V):=List.zip ["first","last","align"] args
theorem Se:FT P w AJ T 1 t.F1 t.F2 ["self","first","last","align"] (Ko t.A6 3 Ve):=by
 refine T.LY.Cr Sa ?_;rintro _ A _ s H _ Q E hr ⟨p,dx,args,rfl,e,hp,q⟩;obtain⟨x0,x1,x2,rfl⟩:=yX e;refine⟨_,(AD (BZ (pv 0) (pv 1) rfl)
   (AD (BZ (pv 0) (pv 2) rfl)
   (AH (BZ (pv 0) (pv 3) rfl)))),?_⟩
 walk_at "rd";refine⟨_,⟨_,_,_,hp,T.A0,T.FP,(by show 0<1000;decide),rfl⟩,_,⟨_,_,_,AG,T.A0,T.GL,(by show 1<1000;decide),rfl⟩,_,⟨_,_,_,AG,T.A0,T.DG,(by show 2<1000;decide),rfl⟩,?_⟩;rw[BR,BR];exact q
def XX(args:List V):List (Str×V):=List.zip ["inner"] args
theorem Ll:FT P w AJ T 1 t.G3 t.G4 ["self","inner"] (Ko t.BO 1 XX):=by refine T.MI.Cr UQ ?_;rintro _ A _ s H _ Q E hr ⟨p,dx,args,rfl,e,hp,q⟩;obtain⟨x0,rfl⟩:=zT e;refine⟨_,(AH (BZ (pv 0) (pv 1) rfl)),?_⟩;walk_at "rd";refine⟨_,⟨_,_,_,hp,T.Be,T.Ck,(by show 0<1000;decide),rfl⟩,?_⟩;exact q
def ZX(args:List V):List (Str×V):=List.zip ["times","inner"] args
theorem MW:FT P w AJ T 1 t.IA t.IB ["self","times","inner"] (Ko t.BS 2 ZX):=by
 refine T.N8.Cr Vx ?_;rintro _ A _ s H _ Q E hr ⟨p,dx,args,rfl,e,hp,q⟩;obtain⟨x0,x1,rfl⟩:=ln2 e;refine⟨_,(AD (BZ (pv 0) (pv 1) rfl)
   (AH (BZ (pv 0) (pv 2) rfl))),?_⟩
 walk_at "rd";refine⟨_,⟨_,_,_,hp,T.BE,T.Cv,(by show 0<1000;decide),rfl⟩,_,⟨_,_,_,AG,T.BE,T.Cw,(by show 1<1000;decide),rfl⟩,?_⟩;rw[BR];exact q
def WY(args:List V):List (Str×V):=List.zip ["names","inners"] args
theorem Wr:FT P w AJ T 1 t.JT t.JU ["self","names","inners"] (Ko t.BV 2 WY):=by
 refine T.Pa.Cr Wq ?_;rintro _ A _ s H _ Q E hr ⟨p,dx,args,rfl,e,hp,q⟩;obtain⟨x0,x1,rfl⟩:=ln2 e;refine⟨_,(AD (BZ (pv 0) (pv 1) rfl)
   (AH (BZ (pv 0) (pv 2) rfl))),?_⟩
 walk_at "rd";refine⟨_,⟨_,_,_,hp,T.BW,T.OA,(by show 0<1000;decide),rfl⟩,_,⟨_,_,_,AG,T.BW,T.CP,(by show 1<1000;decide),rfl⟩,?_⟩;rw[BR];exact q
def XY(args:List V):List (Str×V):=List.zip ["record"] args
theorem UT:FT P w AJ T 1 t.HB t.HC ["self","record"] (Ko t.BP 1 XY):=by refine T.MJ.Cr UR ?_;rintro _ A _ s H _ Q E hr ⟨p,dx,args,rfl,e,hp,q⟩;obtain⟨x0,rfl⟩:=zT e;refine⟨_,(AH (BZ (pv 0) (pv 1) rfl)),?_⟩;walk_at "rd";refine⟨_,⟨_,_,_,hp,T.Bf,T.CY,(by show 0<1000;decide),rfl⟩,?_⟩;exact q
def jE(args:List V):List (Str×V):=List.zip ["name","shape","hot"] args
theorem bJ:FT P w AJ T 1 t.Ow t.Ox ["self","name","shape","hot"] (Ko t.IW 3 jE):=by
 refine T.VN.Cr bF ?_;rintro _ A _ s H _ Q E hr ⟨p,dx,args,rfl,e,hp,q⟩;obtain⟨x0,x1,x2,rfl⟩:=yX e;refine⟨_,(AD (BZ (pv 0) (pv 1) rfl)
   (AD (BZ (pv 0) (pv 2) rfl)
   (AH (BZ (pv 0) (pv 3) rfl)))),?_⟩
 walk_at "rd";refine⟨_,⟨_,_,_,hp,T.En,T.O8,(by show 0<1000;decide),rfl⟩,_,⟨_,_,_,AG,T.En,T.D3,(by show 1<1000;decide),rfl⟩,_,⟨_,_,_,AG,T.En,T.RB,(by show 2<1000;decide),rfl⟩,?_⟩;rw[BR,BR];exact q
theorem CB:FT P w AJ T 1 t.Gq t.Ov ["self","code","place"] (Yy t.BC):=by
 refine T.VM.Cr Th ?_;rintro _ A _ s H _ Q E hr ⟨a,c,p,rfl,hp,q⟩;have nd:=Th.nd;refine⟨_,(AD (lC T.FK (.inl rfl) (pv 0) (pv 1) rfl)
   (AH (lC T.FK (.inr rfl) (pv 0) (pv 2) rfl))),?_⟩
 simp only[rN,uK];walk_at "rd";refine .inl ⟨hp,λdx hd ne=> .inr ⟨dx,AG,_,by rw[AM ne,AG],ne,by show 1<10;decide,?_⟩⟩;refine q dx _ hd ne ?_ AG λb b1 b2=> ?_
 ·rw[AM (Ne.symm ne),AG]
 ·rw[AM b2,AM b1,AM b2]
end
section
abbrev Bytes:=ValayBase.Bytes
def Ii(bs:Bytes):List Int:=bs.map λc=>((c.toNat:Nat):Int)
abbrev Gk(bs:Bytes):List V:=(Ii bs).map V.int
def iZ(c:UInt8):Bool:=isLetter c || isDigit c
def strOf(b:Bytes):Str:=Gj (b.map λc=>c.toNat)
def Gi(C:Addr)(E:XK)(R:Hp->Prop)(c p:Nat):Prop:=∀dx H',R H'->H' dx=some (XD dx [("code",.int c),("place",.int p)])->E (.ref C) (some dx) H'
inductive Nb(C:Addr)(H:Hp)(a:Addr)(k s:Str)(p:Nat):Prop | mk:∀dx,H a=some (.ins C dx (jD [.str k,.str s,.int p]))->Nb C H a k s p
def Lp(b:Bytes):Str:=if ValayBase.RESERVED.contains b=true then strOf b else "name"
def IY(bs:Bytes)(p:Nat):Bytes:=(bs.drop p).takeWhile iZ
theorem oU{α:Type}{f:α->Bool}:∀{l:List α} {k:Nat},k<=(l.takeWhile f).length->(k<(l.takeWhile f).length↔∃c,l[k]?=some c/\f c=true)
 | [],k,h=>by simp
 |x::l,k,h=>by
  by_cases hx:f x=true
  ·rw[takeWhile_cons,if_pos hx] at h ⊢;cases k with
   |zero=>simp[hx]
   |succ k=>rw[length_cons] at h ⊢;rw[List.getElem?_cons_succ,<-oU (l:=l) (k:=k) (by lia)];lia
  ·rw[takeWhile_cons,if_neg hx] at h ⊢;have:k=0:=by simpa using h
   subst this;simp[hx]
theorem Yo{α:Type}{f:α->Bool}:∀{l:List α} {c:α},c∈l.takeWhile f->f c=true
 | [],c,h=>by cases h
 |x::l,c,h=>by
  by_cases hx:f x=true
  ·rw[takeWhile_cons,if_pos hx] at h;rcases mem_cons.mp h with rfl | h
   ·exact hx
   ·exact Yo h
  ·rw[takeWhile_cons,if_neg hx] at h;cases h
theorem xh(c:UInt8):YT (c.toNat:Nat)++Tv (c.toNat:Nat)=if iZ c=true then [c.toNat] else []:=by
 unfold YT Tv iZ isLetter isDigit;by_cases h1:(97<=c.toNat/\c.toNat<=122)\/(65<=c.toNat/\c.toNat<=90)
 ·rw[if_pos (by lia),if_neg (by lia),if_pos (by simp;lia)]
  try simp
 ·rw[if_neg (by lia)];by_cases h2:48<=c.toNat/\c.toNat<=57
  ·rw[if_pos (by lia),if_pos (by simp;lia)]
   try simp
  ·rw[if_neg (by lia),if_neg (by simp;lia)]
   try simp
theorem Nu{a b:Bytes}(h:strOf a=strOf b):a=b:=by
 have e:a.map (λc=>c.toNat)=b.map (λc=>c.toNat):=by have:=congrArg TL.tl h;simpa[strOf,Gj,TL.tl] using this
 clear h;induction a generalizing b with
 |nil=>cases b with
  |nil=>rfl
  |cons y r=>cases e
 |cons x l ih=>cases b with
  |nil=>cases e
  |cons y r=>simp only[map_cons,List.cons.injEq] at e;rw[UInt8.toNat_inj.mp e.1,ih e.2]
theorem zB(w:Bytes):mI (V.str (strOf w)) [V.str (Str.ofString "record"),V.str (Str.ofString "from"),V.str (Str.ofString "to"),V.str (Str.ofString "at"),V.str (Str.ofString "maybe"),V.str (Str.ofString "many"),
  V.str (Str.ofString "one"),V.str (Str.ofString "hot"),V.str (Str.ofString "layout"),V.str (Str.ofString "size"),V.str (Str.ofString "of")]=ValayBase.RESERVED.contains w:=by
 have e:[Str.ofString "record",Str.ofString "from",Str.ofString "to",Str.ofString "at",Str.ofString "maybe",Str.ofString "many",Str.ofString "one",Str.ofString "hot",Str.ofString "layout",Str.ofString "size",Str.ofString "of"]=ValayBase.RESERVED.map strOf:=by decide+kernel
 have e2:∀l:List Bytes,mI (V.str (strOf w)) ((l.map strOf).map V.str)=l.contains w:=λl=>by
  unfold mI;induction l with
  |nil=>rfl
  |cons x r ih=>simp only[map_cons,any_cons,contains_cons,ih,mH];congr 1;rw[Bool.eq_iff_iff,beq_iff_eq,beq_iff_eq];exact⟨λz=>(Nu z).symm,λz=>by rw[z]⟩
 rw[<-e2,<-e];rfl
theorem lV(x y:List Nat):Gj x++Gj y=Gj (x++y):=TL.Tz (TL.Kd _ _)
theorem EG(x:List Nat):(Gj x).length=x.length:=by rw[TL.Yl]
theorem gP(b:Int):(YT b).length<=1:=by unfold YT;split<;>simp
theorem gQ(b:Int):(Tv b).length<=1:=by unfold Tv;split<;>simp
theorem SJ{bs:Bytes}{c:UInt8}(h:bs[i]?=some c):iR (Gk bs) (i:Int)=some (.int (c.toNat:Nat)):=
 Fp (by rw[getElem?_map,Ii,getElem?_map,h];rfl)
theorem cj(bs:Bytes)(p n:Nat):UX (Gk bs) (some (p:Int)) (some ((p:Int)+(n:Int)))=Gk ((bs.drop p).take n):=by
 unfold UX Gk Ii;rw[show (p:Int)+(n:Int)=((p+n:Nat):Int) by lia,HT.SH,HT.SH];simp only[length_map,<-map_drop,<-map_take];congr 2;by_cases h:p<=bs.length
 ·rw[min_eq_left h];by_cases h2:p+n<=bs.length
  ·rw[min_eq_left h2];congr 1;lia
  ·rw[Nat.min_eq_right (by lia),take_of_length_le (by simp),take_of_length_le (by simp;lia)]
 ·rw[Nat.min_eq_right (by lia),drop_eq_nil_of_le (by lia),drop_eq_nil_of_le (by lia)];simp
theorem join_one(l:List (List Nat)):Txt.join (Str.ofString "") (l.map Gj)=Gj l.flatten:=by
 rw[TL.join_eq];refine TL.Tz ?_;rw[TL.dg,show TL.tl (Str.ofString "")=[] by decide+kernel];induction l with
 |nil=>rfl
 |cons x r ih=>
  cases r with
  |nil=>simp[TL.bR,TL.tl,Gj]
  |cons y r=>have e:TL.bR [] ((Gj x::Gj y::r.map Gj).map TL.tl)=x++TL.bR [] ((Gj y::r.map Gj).map TL.tl):=rfl;refine e.trans ?_;rw[show Gj y::r.map Gj=(y::r).map Gj from rfl,ih];rfl
theorem sj(w:Bytes):Txt.join (Str.ofString "") (w.map λc=>Gj [c.toNat])=strOf w:=by
 rw[show (w.map λc=>Gj [c.toNat])=(w.map λc=> [c.toNat]).map Gj by rw[map_map];rfl,join_one];unfold strOf;congr 1;induction w with
 |nil=>rfl
 |cons c r ih=>simp[ih]
theorem vm(w:Bytes):((w.map λc=>Gj [c.toNat]).map (·.length)).sum=w.length:=by
 induction w with
 |nil=>rfl
 |cons c r ih=>simp only[map_cons,sum_cons,length_cons,ih,EG,length_nil];lia
inductive ZY(K:Frag)(t:Bz)(vs:List V)(H:Hp)(Q:VK)(E:XK):Prop | mk:∀(a:Addr) (bs:Bytes) (p:Nat),vs=[.ref a,.int p]->A4 K H a (Gk bs)->bs.length<=8192->(if 16<(IY bs p).length then Gi t.BC E (AR H) 2 p else ∀x H',AR H H'->Nb t.Co H' x (Lp (IY bs p)) (strOf (IY bs p)) p->Q (.ref x) H')->ZY K t vs H Q E
theorem jy:FT P w AJ T 4 t.WQ t.WR ["text","place"] (ZY K t):=by
 refine T.WW.Xg ZV ?_;rintro _ A _ s H _ Q E hr ⟨a,bs,p,rfl,hS,hl,q⟩;have nd:=ZV.nd;refine⟨_,(AD (ps_sl 2 nd (pv 1))
   (AD (FX PassesOwn.leaving (PW.pt (JK (AU GR (pv 2) (AZ Ak rfl T.B7 PySem.boot_len (AB (pv 0) AE)) (AY _)) (Fo (AU FV (An A1 (AV (PF T) hr.lt rfl T.Q5 T.Ip.kp (RF T) .nil AK (AB (BY Av (pv 0) (pv 2) (λ_ _=>rfl)) AE)) (AV (Iq T) hr.lt rfl T.Kv T.Fv.kp (Kw T) .nil AK (AB (BY Av (pv 0) (pv 2) (λ_ _=>rfl)) AE))) Ah (AY _))))) (AH (Tx (i:=2) nd rfl (Or.inl rfl) Aj Ye)))
   (AD (Ay (AU UZ (An D5 (pv 2) (pv 1)) (A9 T.Zp) (AY _)) (AH (Gn T.FK T.FN T.KC (CB T) hr.lt (Cc T) rfl T.IX (AB (A9 T.Oc) (AB (pv 1) AE)))) AX)
   (AD (ps_sl 3 nd (X6 Ah (Jk (own:=[("byte",4)]) rfl nd (Cb (QO Uh (pv 0) (Lr (pv 1)) (Lr (pv 2)))) (B4 rfl) (λ_ _ _ _ _=>(A8 (i:=4) nd rfl (Or.inl rfl) (.inr rfl))) (λ_ _ _ _ _=>Ct) (λ_ _ _ _ _=>(An A1 (AV (PF T) hr.lt rfl T.Q5 T.Ip.kp (RF T) .nil AK (AB (pv 4) AE)) (AV (Iq T) hr.lt rfl T.Kv T.Fv.kp (Kw T) .nil AK (AB (pv 4) AE)))))))
   (AD (Ay (AU bt (pv 3) (fW T.jo) (by with_unfolding_all rfl)) (AH (AO (CL T.Ul (Ff T) hr.lt rfl T.Uk (Gu T) .nil AK (AB (pv 3) (AB (pv 3) (AB (pv 1) AE)))))) AX)
   (AH (AO (CL T.Ul (Ff T) hr.lt rfl T.Uk (Gu T) .nil AK (AB Ah (AB (pv 3) (AB (pv 1) AE))))))))))),?_⟩
 walk_at "rd";generalize hw:IY bs p=w at q;have w2:∀k,k<=w.length->(k<w.length↔∃c,bs[p+k]?=some c/\iZ c=true):=λk hk=>by subst hw;unfold IY at hk ⊢;rw[oU hk,List.getElem?_drop]
 refine bU (λσ H'=>H'=H/\σ=[some (.ref a),some (.int p),some (.int (p+w.length:Nat)),none,none]) (λnx hnx=> ?_) ?_
 ·refine KY (λσ H'=>H'=H/\∃k:Nat,σ=[some (.ref a),some (.int p),some (.int (p+k:Nat)),none,none]/\k<=w.length) (λσ _=>bs.length - wy σ 2) ⟨rfl,0,rfl,zero_le _⟩ ?_;rintro σ H' ⟨rfl,k,rfl,hk⟩;walk_at "rd";refine⟨_,.inl hS,Az (λh1=> ?_) λh1=>hnx _ _ ⟨rfl,?_⟩⟩
  ·have h1:p+k<bs.length:=by simp[Ii] at h1;lia
   obtain⟨c,ec⟩:∃c,bs[p+k]?=some c:=⟨_,getElem?_eq_getElem h1⟩;refine⟨_,⟨_,hS,SJ ec⟩,_,rfl,_,⟨_,hS,SJ ec⟩,_,rfl,_,rfl,_,rfl,?_,rfl,?_⟩
   ·rw[EG,EG,sizeLine_eq];have:=gP (c.toNat:Nat);have:=gQ (c.toNat:Nat);lia
   rw[lV,xh];refine Az (λh2=>NZ ⟨⟨rfl,k+1,rfl,?_⟩,?_⟩) λh2=>hnx _ _ ⟨rfl,?_⟩
   ·refine(w2 k hk).mpr ⟨c,ec,?_⟩;by_cases z:iZ c=true
    ·exact z
    ·rw[if_neg z] at h2;exact absurd rfl h2
   ·show bs.length - (p+(k+1))<bs.length - (p+k)
    lia
   ·have z:¬iZ c=true:=λz=>h2 (by rw[if_pos z];intro e;cases e);have e:k=w.length:=by
     rcases lt_or_eq_of_le hk with h | h
     ·obtain⟨c',e1,e2⟩:=(w2 k hk).mp h;rw[ec] at e1;cases e1;exact absurd e2 z
     ·exact h
    rw[e]
  ·have e:k=w.length:=by
    rcases lt_or_eq_of_le hk with h | h
    ·obtain⟨c',e1,e2⟩:=(w2 k hk).mp h;have:=(List.getElem?_eq_some_iff.mp e1).1;simp[Ii] at h1;lia
    ·exact h
   rw[e]
 ·rintro σ H' ⟨rfl,rfl⟩;walk_at "rd";refine Az (λh1=> ?_) λh1=>⟨⟨_,rfl⟩,?_⟩
  ·rw[if_pos (by lia)] at q;exact λdx H1 _ e1 e2=>q dx H1 e2 e1
  ·rw[if_neg (by lia)] at q;have wl:w.length<=16:=by lia
   have ew:(bs.drop p).take w.length=w:=by subst hw;unfold IY;exact(List.prefix_iff_eq_take.mp (takeWhile_prefix _)).symm
   have al:∀c∈w,iZ c=true:=λc hc=>by subst hw;exact Yo hc
   refine⟨_,rfl,_,rfl,_,_,rfl,hS,λl hl=>⟨l,rfl,⟨_,A4.of AG⟩,λD hD=> ?_⟩⟩;have ec:UX (Gk bs) (some (p:Int)) (some ((p+w.length:Nat):Int))=Gk w:=by rw[show ((p+w.length:Nat):Int)=(p:Int)+(w.length:Int) by lia,cj,ew]
   rw[ec] at hD ⊢;have ld:l≠D:=Ax AG hD;refine uR (λv=>match v with | .int b=> .str (Gj (YT b++Tv b)) | v=>v) (A4.of AG) ld (by simp[Ii,sizeLine_eq];lia) hD (λx ys Q hx hq=> ?_) ?_
   ·obtain⟨b,hb,rfl⟩:=mem_map.mp hx;exact⟨b,rfl,b,rfl,_,rfl,_,rfl,by rw[EG,EG,sizeLine_eq];have:=gP b;have:=gQ b;lia,by rw[lV];exact hq⟩
   ·have em:(Gk w).map (λv=>match v with | .int b=> .str (Gj (YT b++Tv b)) | v=>v)=(w.map λc=>Gj [c.toNat]).map V.str:=by
     unfold Gk Ii;rw[map_map,map_map,map_map];refine map_congr_left λc hc=> ?_;show V.str (Gj (YT (c.toNat:Nat)++Tv (c.toNat:Nat)))=_;rw[xh,if_pos (al c hc)];rfl
    rw[em];have ej:Txt.join (Str.ofString "") (w.map λc=>Gj [c.toNat])=strOf w:=by
     rw[show (w.map λc=>Gj [c.toNat])=(w.map λc=> [c.toNat]).map Gj by rw[map_map];rfl,join_one];unfold strOf;congr 1;clear ew al ec hD ld em hw w2 q wl h1;induction w with
     |nil=>rfl
     |cons c r ih=>simp[ih]
    refine⟨D,rfl,_,.inl (A4.of AG),?_,_,.inr (T.jq.sq _),rfl,by decide,?_⟩
    ·have e0:(Str.ofString "").length=0:=by decide+kernel
     rw[e0,Nat.mul_zero,add_zero];have e1:((w.map λc=>Gj [c.toNat]).map (·.length)).sum=w.length:=by
      clear ew al ec hD ld em hw w2 q wl h1 ej;induction w with
      |nil=>rfl
      |cons c r ih=>simp only[map_cons,sum_cons,length_cons,ih,EG,length_nil];lia
     rw[e1];lia
    ·rw[ej,zB];have sm:∀(x dx:Addr) (u:HO),upd (upd H' l (.lst (Gk w))) D (.lst (List.map V.str (w.map λc=>Gj [c.toNat]))) x=none->upd (upd H' l (.lst (Gk w))) D (.lst (List.map V.str (w.map λc=>Gj [c.toNat]))) dx=none->
       AR H' (upd (upd (upd (upd H' l (.lst (Gk w))) D (.lst (List.map V.str (w.map λc=>Gj [c.toNat])))) dx (.own x)) x u):=λx dx u hx hd=>
      ((AR.upd hl).trans (AR.upd hD)).trans (AR.new hx hd)
     refine Az (λh2=>λx dx hx hd ne=>⟨x,dx,_,rfl,rfl,AG,rfl,?_⟩) λh2=>λx dx hx hd ne=>⟨x,dx,_,rfl,rfl,AG,rfl,?_⟩
     ·rw[BR];exact q x _ (sm x dx _ hx hd) ⟨dx,by rw[AG];unfold Lp;rw[if_pos h2]⟩
     ·rw[BR];exact q x _ (sm x dx _ hx hd) ⟨dx,by rw[AG];unfold Lp;rw[if_neg h2]⟩
end
section
theorem dn(d:Bytes):decimal d=NumText.digitsVal (d.map λc=>c.toNat):=by
 unfold decimal NumText.digitsVal;rw[List.foldl_map];congr 1;funext a c
 lia
theorem uq(c:UInt8):Tv (c.toNat:Nat)=if isDigit c=true then [c.toNat] else []:=by
 unfold Tv isDigit;by_cases h2:48<=c.toNat/\c.toNat<=57
 ·rw[if_pos (by lia),if_pos (by simp;lia)];simp
 ·rw[if_neg (by lia),if_neg (by simp;lia)]
theorem lW{c:UInt8}(h:isDigit c=true):48<=c.toNat/\c.toNat<=57:=by unfold isDigit at h;simpa using h
theorem du{d:Bytes}(h:∀c∈d,isDigit c=true):NumText.AllDigits (d.map λc=>c.toNat):=λz hz=>by obtain⟨c,hc,rfl⟩:=mem_map.mp hz;exact lW (h c hc)
theorem yG{d:Bytes}(h:∀c∈d,isDigit c=true)(h0:d≠ [])(h1:d.length<=10):intText? (strOf d)=some ((decimal d:Nat):Int):=by
 rw[dn];refine PySem.intText_digits (x:=strOf d) (du h) ?_ ?_
 ·intro z;have z2:d.map (λc=>c.toNat)=[]:=z;simp at z2;exact h0 z2
 ·show (Gj _).length<=4300;rw[EG,length_map];lia
theorem oW{d:Bytes}(h:∀c∈d,isDigit c=true)(h0:d≠ []):
  (strOf d=Str.ofString (toString ((decimal d:Nat):Int)))↔¬(1<d.length/\d.head?=some 48):=by
 have tl0:TL.tl (strOf d)=d.map λc=>c.toNat:=rfl;have key:(strOf d=Str.ofString (toString ((decimal d:Nat):Int)))↔(d.map λc=>c.toNat)=TL.Pt (decimal d):=by
  constructor
  ·intro z;rw[<-tl0,z,TL.Me]
  ·intro z;exact TL.Tz (by rw[tl0,TL.Me,z])
 rw[key,dn];unfold TL.Pt;have ad:=du h;have chr:∀l:List Nat,NumText.AllDigits l->(l.map Char.ofNat).map Char.toNat=l:=λl hl=>by
  rw[map_map]
  conv=>rhs;rw[<-map_id l]
  refine map_congr_left λz hz=> ?_;have:=hl z hz;show (Char.ofNat z).toNat=z;have hd:∀z:Fin 128,(Char.ofNat z.1).toNat=z.1:=by decide+kernel
  exact hd ⟨z,by lia⟩
 cases d with
 |nil=>exact absurd rfl h0
 |cons c r=>
  by_cases hc:1<(c::r).length/\(c::r).head?=some 48
  ·refine⟨λz=> ?_,λz=>absurd hc z⟩;have c48:c=48:=by simpa using hc.2
   subst c48;have e:=congrArg List.length z;rw[NumText.toDigits_all _ ad] at e;exfalso;have rl:r.length ≥ 1:=by have:=hc.1;rw[length_cons] at this;lia
   rw[map_cons,show ((48:UInt8).toNat:Nat)=48 from rfl,List.dropWhile_cons,if_pos (by rfl)] at e;have dl:=(List.dropWhile_suffix (l:=r.map λc=>c.toNat) (p:=λx=>x==48)).length_le;rw[length_map] at dl;split at e
   ·simp only[length_cons,length_map,length_nil,map_cons,map_nil] at e;lia
   ·rename_i q;rw[q] at dl;simp only[length_cons,length_map,map_cons] at e dl;lia
  ·refine⟨λ_=>hc,λ_=> ?_⟩;rw[NumText.toDigits_digitsVal r.length _ (by simp) ad ?_,chr _ ad];by_cases r0:r.length=0
   ·exact .inl r0
   ·refine .inr ⟨c.toNat,r.map λc=>c.toNat,rfl,?_⟩;have a1:48<=c.toNat/\c.toNat<=57:=lW (h c (by simp));have nc:c.toNat≠48:=λz=>hc ⟨by rw[length_cons];lia,by
     have:c=48:=UInt8.toNat_inj.mp z;rw[this];rfl⟩
    lia
theorem pS:∀(l:List Nat) (a:Nat),NumText.AllDigits l->l.foldl (λacc c=>acc * 10+(c - 48)) a<(a+1) * 10 ^ l.length
 | [],a,_=>by simp
 |c::l,a,h=>by
  have hc:=h.head;have:=pS l (a * 10+(c - 48)) h.tail;rw[foldl_cons,length_cons,pow_succ];refine lt_of_lt_of_le this ?_
  calc (a * 10+(c - 48)+1) * 10 ^ l.length<=((a+1) * 10) * 10 ^ l.length:=mul_le_mul_right _ (by lia)
   _=(a+1) * (10 ^ l.length * 10):=by rw[Nat.mul_assoc,mul_comm 10]
theorem dec_lt{d:Bytes}(h:∀c∈d,isDigit c=true)(h1:d.length<=10):decimal d<10 ^ 10:=by rw[dn];have:=pS _ 0 (du h);rw[length_map,zero_add,one_mul] at this;exact lt_of_lt_of_le this (Nat.pow_le_pow_right (by decide) h1)
theorem nU(h:n<10 ^ 10):((n:Nat):Int).natAbs.log2<1920:=by
 rw[Int.natAbs_natCast];by_cases z:n=0
 ·subst z;decide
 ·have:=(log2_lt z (k:=34)).mpr (lt_of_lt_of_le h (by decide))
  lia
def JM(bs:Bytes)(p:Nat):Bytes:=(bs.drop p).takeWhile isDigit
inductive Vf(K:Frag)(t:Bz)(vs:List V)(H:Hp)(Q:VK)(E:XK):Prop | mk:∀(a:Addr) (bs:Bytes) (p:Nat),vs=[.ref a,.int p]->A4 K H a (Gk bs)->bs.length<=8192->JM bs p≠ []->(match numberOf (JM bs p) with
 |none=>Gi t.BC E (AR H) 2 p
 |some _=>∀x H',AR H H'->Nb t.Co H' x "number" (strOf (JM bs p)) p->Q (.ref x) H')->Vf K t vs H Q E
theorem fD:FT P w AJ T 4 t.Qs t.Qt ["text","place"] (Vf K t):=by
 refine T.Q9.Xg VZ ?_;rintro _ A _ s H _ Q E hr ⟨a,bs,p,rfl,hS,hl,h0,q⟩;have nd:=VZ.nd;refine⟨_,(AD (ps_sl 2 nd (pv 1))
   (AD (FX PassesOwn.leaving (PW.pt (JK (AU GR (pv 2) (AZ Ak rfl T.B7 PySem.boot_len (AB (pv 0) AE)) (AY _)) (Fo (AU FV (AV (Iq T) hr.lt rfl T.Kv T.Fv.kp (Kw T) .nil AK (AB (BY Av (pv 0) (pv 2) (λ_ _=>rfl)) AE)) Ah (AY _))))) (AH (Tx (i:=2) nd rfl (Or.inl rfl) Aj Ye)))
   (AD (Ay (AU UZ (An D5 (pv 2) (pv 1)) (A9 T.ag) (AY _)) (AH (Gn T.FK T.FN T.KC (CB T) hr.lt (Cc T) rfl T.IX (AB (A9 T.Oc) (AB (pv 1) AE)))) AX)
   (AD (ps_sl 3 nd (X6 Ah (Jk (own:=[("byte",4)]) rfl nd (Cb (QO Uh (pv 0) (Lr (pv 1)) (Lr (pv 2)))) (B4 rfl) (λ_ _ _ _ _=>(A8 (i:=4) nd rfl (Or.inl rfl) (.inr rfl))) (λ_ _ _ _ _=>Ct) (λ_ _ _ _ _=>(AV (Iq T) hr.lt rfl T.Kv T.Fv.kp (Kw T) .nil AK (AB (pv 4) AE))))))
   (AD (Ay (PW.pt (Wv (AU FV (pv 3) (CM Eu rfl T.bY boot_str (AB (CM Ew rfl T.bX boot_int (AB (pv 3) AE)) AE)) (AY _)) (QF (AU UZ (CM Ew rfl T.bX boot_int (AB (pv 3) AE)) (A9 T.Vt) (AY _))))) (AH (Gn T.FK T.FN T.KC (CB T) hr.lt (Cc T) rfl T.IX (AB (A9 T.Oc) (AB (pv 1) AE)))) AX)
   (AH (AO (CL T.Ul (Ff T) hr.lt rfl T.Uk (Gu T) .nil AK (AB Ah (AB (pv 3) (AB (pv 1) AE))))))))))),?_⟩
 walk_at "rd";generalize hw:JM bs p=w at q h0;have w2:∀k,k<=w.length->(k<w.length↔∃c,bs[p+k]?=some c/\isDigit c=true):=λk hk=>by subst hw;unfold JM at hk ⊢;rw[oU hk,List.getElem?_drop]
 have al:∀c∈w,isDigit c=true:=λc hc=>by subst hw;exact Yo hc
 refine bU (λσ H'=>H'=H/\σ=[some (.ref a),some (.int p),some (.int (p+w.length:Nat)),none,none]) (λnx hnx=> ?_) ?_
 ·refine KY (λσ H'=>H'=H/\∃k:Nat,σ=[some (.ref a),some (.int p),some (.int (p+k:Nat)),none,none]/\k<=w.length) (λσ _=>bs.length - wy σ 2) ⟨rfl,0,rfl,zero_le _⟩ ?_;rintro σ H' ⟨rfl,k,rfl,hk⟩;walk_at "rd";refine⟨_,.inl hS,Az (λh1=> ?_) λh1=>hnx _ _ ⟨rfl,?_⟩⟩
  ·have h1:p+k<bs.length:=by simp[Ii] at h1;lia
   obtain⟨c,ec⟩:∃c,bs[p+k]?=some c:=⟨_,getElem?_eq_getElem h1⟩;refine⟨_,⟨_,hS,SJ ec⟩,_,rfl,rfl,?_⟩;rw[uq];refine Az (λh2=>NZ ⟨⟨rfl,k+1,rfl,?_⟩,?_⟩) λh2=>hnx _ _ ⟨rfl,?_⟩
   ·refine(w2 k hk).mpr ⟨c,ec,?_⟩;by_cases z:isDigit c=true
    ·exact z
    ·rw[if_neg z] at h2;exact absurd rfl h2
   ·show bs.length - (p+(k+1))<bs.length - (p+k)
    lia
   ·have z:¬isDigit c=true:=λz=>h2 (by rw[if_pos z];intro e;cases e);have e:k=w.length:=by
     rcases lt_or_eq_of_le hk with h | h
     ·obtain⟨c',e1,e2⟩:=(w2 k hk).mp h;rw[ec] at e1;cases e1;exact absurd e2 z
     ·exact h
    rw[e]
  ·have e:k=w.length:=by
    rcases lt_or_eq_of_le hk with h | h
    ·obtain⟨c',e1,e2⟩:=(w2 k hk).mp h;have:=(List.getElem?_eq_some_iff.mp e1).1;simp[Ii] at h1;lia
    ·exact h
   rw[e]
 ·rintro σ H' ⟨rfl,rfl⟩;walk_at "rd";have bad:(w=[]\/10<w.length\/(1<w.length/\w.head?=some 48)\/NUMBER<decimal w)->Gi t.BC E (AR H') 2 p:=λz=>by
   rw[show numberOf w=none from if_pos z] at q;exact q
  refine Az (λh1=>λdx H1 _ e1 e2=>bad (.inr (.inl (by lia))) dx H1 e2 e1) λh1=>⟨⟨_,rfl⟩,?_⟩;have wl:w.length<=10:=by lia
  have ew:(bs.drop p).take w.length=w:=by subst hw;unfold JM;exact(List.prefix_iff_eq_take.mp (takeWhile_prefix _)).symm
  refine⟨_,rfl,_,rfl,_,_,rfl,hS,λl hl=>⟨l,rfl,⟨_,A4.of AG⟩,λD hD=> ?_⟩⟩;have ec:UX (Gk bs) (some (p:Int)) (some ((p+w.length:Nat):Int))=Gk w:=by rw[show ((p+w.length:Nat):Int)=(p:Int)+(w.length:Int) by lia,cj,ew]
  rw[ec] at hD ⊢;have ld:l≠D:=Ax AG hD;refine uR (λv=>match v with | .int b=> .str (Gj (Tv b)) | v=>v) (A4.of AG) ld (by simp[Ii,sizeLine_eq];lia) hD (λx ys Q hx hq=> ?_) ?_
  ·obtain⟨b,hb,rfl⟩:=mem_map.mp hx;exact⟨b,rfl,hq⟩
  ·have em:(Gk w).map (λv=>match v with | .int b=> .str (Gj (Tv b)) | v=>v)=(w.map λc=>Gj [c.toNat]).map V.str:=by
    unfold Gk Ii;rw[map_map,map_map,map_map];refine map_congr_left λc hc=> ?_;show V.str (Gj (Tv (c.toNat:Nat)))=_;rw[uq,if_pos (al c hc)];rfl
   rw[em];have ej:Txt.join (Str.ofString "") (w.map λc=>Gj [c.toNat])=strOf w:=sj w;have sl:((w.map λc=>Gj [c.toNat]).map (·.length)).sum+(w.map λc=>Gj [c.toNat]).length * (Str.ofString "").length<=16777216:=by rw[vm,show (Str.ofString "").length=0 by decide+kernel];lia
   refine⟨D,rfl,_,.inl (A4.of AG),sl,?_⟩;rw[ej];have iw:=yG al h0 wl;have ls:(strOf w).length<=640:=by unfold strOf;rw[EG,length_map];lia
   have lg:=nU (dec_lt al wl);have sx:AR H' (upd (upd H' l (.lst (Gk w))) D (.lst (List.map V.str (w.map λc=>Gj [c.toNat])))):=(AR.upd hl).trans (AR.upd hD);generalize upd (upd H' l (.lst (Gk w))) D (.lst (List.map V.str (w.map λc=>Gj [c.toNat])))=Hx at sx ⊢;refine⟨_,iw,ls,lg,rfl,Az (λh2=>λdx H1 _ e1 e2=>bad (.inr (.inr (.inl ?_))) dx H1 (sx.trans e2) e1) λh2=>⟨_,iw,ls,Az (λh3=>λdx H1 _ e1 e2=>bad (.inr (.inr (.inr ?_))) dx H1 (sx.trans e2) e1) λh3=>λx dx hx hd ne=>⟨x,dx,_,rfl,rfl,AG,rfl,?_⟩⟩⟩
   ·exact Classical.byContradiction λz=>h2 ((oW al h0).mpr z)
   ·unfold NUMBER;lia
   ·have good:¬(w=[]\/10<w.length\/(1<w.length/\w.head?=some 48)\/NUMBER<decimal w):=by
     rintro(z | z | z | z)
     ·exact h0 z
     ·lia
     ·exact(oW al h0).mp (Classical.not_not.mp h2) z
     ·unfold NUMBER at z;lia
    rw[show numberOf w=some (decimal w) from if_neg good] at q;rw[BR];exact q x _ (sx.trans (AR.new hx hd)) ⟨dx,AG⟩
end
theorem sr{x:Str}{g:TG}{tb:TS}{D:Ends}{σ:L2.St}(Pv:Nat->L2.St->Hp->Prop)(h0:Pv 0 σ H)
  (hs:∀i c σ H,x.cps[i]?=some c->Pv i σ H->g (.str ⟨#[c]⟩) σ H λσ2 H2=>tb {D with nx:=Pv (i+1),ct:=Pv (i+1),bk:=D.nx} σ2 H2) (hd:∀σ H,Pv x.cps.size σ H->D.nx σ H):
  ∃W:Nat->Nat->L2.St->Hp->Prop,(∃m,W 0 m σ H)/\∀i m σ H,W i m σ H->
   ((wx x).stop i H/\D.nx σ H)\/((wx x).go i H/\∃N:L2.St->Hp->Prop,(∀σ' H',N σ' H'->∃m',m'<m/\W (i+1) m' σ' H')/\∀v H',(wx x).iU i H v H'->g v σ H' λσ2 H2=>tb {D with nx:=N,ct:=N,bk:=D.nx} σ2 H2):=by
 refine⟨λi m σ H=>m=x.cps.size - i/\i<=x.cps.size/\Pv i σ H,⟨_,rfl,zero_le _,h0⟩,?_⟩;rintro i m σ H ⟨rfl,hi,p⟩;by_cases hlt:i<x.cps.size
 ·refine .inr ⟨hlt,Pv (i+1),λσ' H' p'=>⟨x.cps.size - (i+1),by lia,rfl,hlt,p'⟩,λv H' y=> ?_⟩;obtain⟨e,c,ec,ev⟩:=y;subst e ev;exact hs i c σ _ ec p
 ·have e:i=x.cps.size:=by lia
  subst e;exact .inl ⟨Nat.le_refl _,hd σ H p⟩
section
def fQ(n:Nat):Str:=Str.ofString (toString ((n:Nat):Int))
def kindOf:ValayBase.Tok->Str
 | .name b=>Lp b
 | .num _=> "number"
 | .sign c=>Gj [c]
 | .last=> "end"
def NX:ValayBase.Tok->Str
 | .name b=>strOf b
 | .num n=>fQ n
 | .sign c=>Gj [c]
 | .last=> ""
theorem dv(c:UInt8):(Gj (YT (c.toNat:Nat))=Str.ofString "")↔¬isLetter c=true:=by
 unfold YT isLetter;by_cases h1:(97<=c.toNat/\c.toNat<=122)\/(65<=c.toNat/\c.toNat<=90)
 ·rw[if_pos (by lia)];refine⟨λz=>(by cases z),λz=>absurd ?_ z⟩;simp;lia
 ·rw[if_neg (by lia)];refine⟨λ_ z=>h1 ?_,λ_=>rfl⟩;simp at z;lia
theorem lX(c:UInt8):(Gj (Tv (c.toNat:Nat))=Str.ofString "")↔¬isDigit c=true:=by
 rw[uq];by_cases h:isDigit c=true
 ·rw[if_pos h];exact⟨λz=>(by cases z),λz=>absurd h z⟩
 ·rw[if_neg h];exact⟨λ_=>h,λ_=>rfl⟩
theorem gR{w:Bytes}(al:∀c∈w,isDigit c=true)(h:numberOf w=some n):strOf w=fQ n/\n=decimal w:=by
 unfold numberOf at h;split at h
 ·cases h
 ·rename_i z;cases h;refine⟨(oW al λe=>z (.inl e)).mpr λe=>z (.inr (.inr (.inl e))),rfl⟩
inductive XZ(K:Frag)(t:Bz)(vs:List V)(H:Hp)(Q:VK)(E:XK):Prop | mk:∀(a:Addr) (bs:Bytes) (p:Nat),vs=[.ref a,.int p]->A4 K H a (Gk bs)->bs.length<=8192->p<bs.length->(match token (bs.drop p) with
 |none=>Gi t.BC E (AR H) 2 p
 |some x=>∀y H',AR H H'->Nb t.Co H' y (kindOf x.1) (NX x.1) p->Q (.ref y) H')->XZ K t vs H Q E
theorem iK:FT P w AJ T 5 t.UB t.UC ["text","place"] (XZ K t):=by
 refine T.UI.Xg XT ?_;rintro _ A _ s H _ Q E hr ⟨a,bs,p,rfl,hS,hl,hp,q⟩;have nd:=XT.nd;refine⟨_,(AD (Ay (AU FV (AV (PF T) hr.lt rfl T.Q5 T.Ip.kp (RF T) .nil AK (AB (BY Av (pv 0) (pv 1) (λ_ _=>rfl)) AE)) Ah (AY _)) (AH (AO (AV (jy T) hr.lt rfl T.nK T.WW.kp (nQ T) .nil (Ag λ_ _ z=>z) (AB (pv 0) (AB (pv 1) AE))))) AX)
   (AD (Ay (AU FV (AV (Iq T) hr.lt rfl T.Kv T.Fv.kp (Kw T) .nil AK (AB (BY Av (pv 0) (pv 1) (λ_ _=>rfl)) AE)) Ah (AY _)) (AH (AO (AV (fD T) hr.lt rfl T.h9 T.Q9.kp (iF T) .nil (Ag λ_ _ z=>z) (AB (pv 0) (AB (pv 1) AE))))) AX)
   (AD (JL PassesOwn.leaving rfl (vV (kK T.sX)) (A8 (i:=2) nd rfl (Or.inl rfl)) (AH (Ay (AU B3 (BY Av (pv 0) (pv 1) (λ_ _=>rfl)) (AZ FY rfl T.Si boot_ord (AB (pv 2) AE)) (AY _)) (AH (AO (CL T.Ul (Ff T) hr.lt rfl T.Uk (Gu T) .nil AK (AB (pv 2) (AB (pv 2) (AB (pv 1) AE)))))) AX)))
   (AH (Gn T.FK T.FN T.KC (CB T) hr.lt (Cc T) rfl T.IX (AB (A9 T.Oc) (AB (pv 1) AE))))))),?_⟩
 walk_at "rd";obtain⟨c,ec⟩:∃c,bs[p]?=some c:=⟨_,getElem?_eq_getElem hp⟩;have ed:bs.drop p=c::bs.drop (p+1):=Fq ec;have tk:=q;rw[ed] at tk;unfold token at tk;dsimp only at tk;refine⟨_,⟨_,hS,SJ ec⟩,_,rfl,rfl,Az (λh1=> ?_) λh1=>⟨_,⟨_,hS,SJ ec⟩,_,rfl,rfl,Az (λh2=> ?_) λh2=> ?_⟩⟩
 ·have h1:isLetter c=true:=Classical.byContradiction λz=>h1 (congrArg V.str ((dv c).mpr z));rw[if_pos h1,<-ed] at tk;refine⟨a,bs,p,rfl,hS,hl,?_⟩;have tk2:match (if 16<(IY bs p).length then none else some (ValayBase.Tok.name (IY bs p),(IY bs p).length)) with
   |none=>Gi t.BC E (AR H) 2 p
   |some x=>∀y H',AR H H'->Nb t.Co H' y (kindOf x.1) (NX x.1) p->Q (.ref y) H':=tk
  by_cases z:16<(IY bs p).length
  ·rw[if_pos z] at tk2 ⊢;exact tk2
  ·rw[if_neg z] at tk2 ⊢;exact tk2
 ·have h1:¬isLetter c=true:=λz=>h1 λe=>(dv c).mp (V.str.inj e) z;have h2:isDigit c=true:=Classical.byContradiction λz=>h2 (congrArg V.str ((lX c).mpr z));rw[if_neg h1,if_pos h2,<-ed] at tk;have ne:JM bs p≠ []:=by
   unfold JM;rw[ed,takeWhile_cons,if_pos h2];simp
  refine⟨a,bs,p,rfl,hS,hl,ne,?_⟩;have tk2:match (numberOf (JM bs p)).map λn=>(ValayBase.Tok.num n,(JM bs p).length) with
   |none=>Gi t.BC E (AR H) 2 p
   |some x=>∀y H',AR H H'->Nb t.Co H' y (kindOf x.1) (NX x.1) p->Q (.ref y) H':=tk
  cases e:numberOf (JM bs p) with
  |none=>rw[e] at tk2;exact tk2
  |some n=>rw[e] at tk2;intro x H' sm h;rw[(gR (w:=JM bs p) (λc hc=>Yo hc) e).1] at h;exact tk2 x H' sm h
 ·have h1:¬isLetter c=true:=λz=>h1 λe=>(dv c).mp (V.str.inj e) z;have h2:¬isDigit c=true:=λz=>h2 λe=>(lX c).mp (V.str.inj e) z;rw[if_neg h1,if_neg h2] at tk;have es:(Str.ofString "{},;:-.").cps=#[123,125,44,59,58,45,46]:=by decide+kernel
  have sg:ValayBase.SIGNS.contains c=true↔c.toNat∈([123,125,44,59,58,45,46]:List Nat):=by unfold SIGNS;simp only[contains_cons,List.contains_nil,Bool.or_eq_true,beq_iff_eq,mem_cons,<-UInt8.toNat_inj];simp
  refine⟨_,rfl,sr (λi σ H'=>H'=H/\(∃v,σ=[some (.ref a),some (.int p),v])/\∀j,j<i->([123,125,44,59,58,45,46]:List Nat)[j]?≠some c.toNat) ⟨rfl,⟨none,rfl⟩,λj z=>by lia⟩ ?_ ?_⟩
  ·rintro i d σ H' hd ⟨rfl,⟨v,rfl⟩,no⟩;rw[es] at hd;have hd:([123,125,44,59,58,45,46]:List Nat)[i]?=some d:=by simpa using hd
   walk_at "rd";refine⟨_,⟨_,hS,SJ ec⟩,rfl,rfl,Az (λh3=> ?_) λh3=>⟨⟨_,rfl⟩,λj z=> ?_⟩⟩
   ·have h3:c.toNat=d:=by
     have z:=V.int.inj h3;simp at z;lia
    have mm:c.toNat∈([123,125,44,59,58,45,46]:List Nat):=by rw[h3];exact mem_of_getElem? hd
    rw[if_pos (sg.mpr mm)] at tk;intro x dx hx hdx ne;refine⟨x,dx,_,rfl,rfl,AG,rfl,?_⟩;rw[BR];exact tk x _ (AR.new hx hdx) ⟨dx,by rw[AG,h3];rfl⟩
   ·by_cases e:j=i
    ·subst e;rw[hd];intro z2;cases z2;exact h3 (by simp)
    ·exact no j (by lia)
  ·rintro σ H' ⟨rfl,⟨v,rfl⟩,no⟩;rw[es] at no;have nm:¬c.toNat∈([123,125,44,59,58,45,46]:List Nat):=λz=>by
    obtain⟨j,hj⟩:=getElem?_of_mem z;refine no j ?_ hj;exact(List.getElem?_eq_some_iff.mp hj).1
   rw[if_neg (λz=>nm (sg.mp z))] at tk;walk_at "rd";exact λdx H1 _ e1 e2=>tk dx H1 e2 e1
end
theorem lex_cons(n at_:Nat)(b:UInt8)(r:Bytes):ValayBase.lex (n+1) at_ (b::r)=(if isBlank b=true then ValayBase.lex n (at_+1) r
  else if (b==35)=true then ValayBase.lex n (at_+1+(r.takeWhile (· !=10)).length) (r.dropWhile (· !=10))
  else match token (b::r) with
   |none=> .error ⟨2,at_⟩
   |some x=>(ValayBase.lex n (at_+x.2) ((b::r).drop x.2)).map λl=>⟨at_,x.1⟩::l):=by rw[ValayBase.lex];rfl
theorem WZ{l:Bytes}{x:ValayBase.Tok×Nat}(h:token l=some x):1<=x.2/\x.2<=l.length/\(NX x.1).length=x.2:=by
 cases l with
 |nil=>cases h
 |cons b r=>
  unfold token at h;dsimp only at h;split at h
  ·rename_i hb;split at h
   ·cases h
   ·cases h;refine⟨?_,?_,?_⟩
    ·rw[takeWhile_cons,if_pos (by rw[hb];rfl)];simp
    ·exact(takeWhile_prefix _).length_le
    ·show (strOf _).length=_;unfold strOf;rw[EG,length_map]
  ·split at h
   ·rename_i hb;obtain⟨n,e,rfl⟩:=map_eq_some_iff.mp h;refine⟨?_,?_,?_⟩
    ·rw[takeWhile_cons,if_pos hb];simp
    ·exact(takeWhile_prefix _).length_le
    ·show (fQ n).length=_;rw[<-(gR (λc hc=>Yo hc) e).1];unfold strOf;rw[EG,length_map]
   ·split at h
    ·cases h;exact⟨Nat.le_refl _,by simp,rfl⟩
    ·cases h
theorem Nh:∀(n m p:Nat) (l:Bytes),l.length<n->l.length<m->ValayBase.lex n p l=ValayBase.lex m p l
 | 0,_,_,_,h,_=>by lia
 |_+1,0,_,_,_,h=>by lia
 |n+1,m+1,p,[],_,_=>rfl
 |n+1,m+1,p,b::r,h1,h2=>by
  rw[length_cons] at h1 h2;rw[lex_cons,lex_cons];have dl:=(List.dropWhile_suffix (l:=r) (p:=λx=>x !=10)).length_le;rw[Nh n m _ r (by lia) (by lia),Nh n m _ (r.dropWhile (· !=10)) (by lia) (by lia)];cases e:token (b::r) with
  |none=>rfl
  |some x=>
   have tp:=WZ e;have:((b::r).drop x.2).length<n:=by rw[length_drop,length_cons];lia
   have:((b::r).drop x.2).length<m:=by rw[length_drop,length_cons];lia
   simp only[];rw[Nh n m _ ((b::r).drop x.2) (by assumption) (by assumption)]
def LX(bs:Bytes)(p:Nat):Except Fault ValayBase.Toks:=ValayBase.lex (bs.length+1) p (bs.drop p)
theorem vn{bs:Bytes}{p:Nat}(h:bs.length<=p):LX bs p= .ok [⟨p,.last⟩]:=by unfold LX;rw[drop_eq_nil_of_le h];rfl
theorem oX{bs:Bytes}{p:Nat}{b:UInt8}(h:bs[p]?=some b):LX bs p=(if isBlank b=true then LX bs (p+1)
  else if (b==35)=true then LX bs (p+1+((bs.drop (p+1)).takeWhile (· !=10)).length)
  else match token (bs.drop p) with
   |none=> .error ⟨2,p⟩
   |some x=>(LX bs (p+x.2)).map λl=>⟨p,x.1⟩::l):=by
 have hp:=(List.getElem?_eq_some_iff.mp h).1;have e:=Fq h;unfold LX;rw[e,lex_cons];have l1:(bs.drop (p+1)).length<bs.length:=by rw[length_drop];lia
 rw[Nh bs.length (bs.length+1) _ (bs.drop (p+1)) l1 (by lia)];have dw:(bs.drop (p+1)).dropWhile (· !=10)=bs.drop (p+1+((bs.drop (p+1)).takeWhile (· !=10)).length):=by rw[show bs.drop (p+1+((bs.drop (p+1)).takeWhile (· !=10)).length)=(bs.drop (p+1)).drop ((bs.drop (p+1)).takeWhile (· !=10)).length from drop_drop.symm];generalize bs.drop (p+1)=l;have z:(l.takeWhile (· !=10)++l.dropWhile (· !=10)).drop (l.takeWhile (· !=10)).length=l.dropWhile (· !=10):=List.drop_left;rw[List.takeWhile_append_dropWhile] at z;exact z.symm
 rw[dw];have l2:(bs.drop (p+1+((bs.drop (p+1)).takeWhile (· !=10)).length)).length<bs.length:=by rw[length_drop];lia
 rw[Nh bs.length (bs.length+1) _ _ l2 (by lia)];cases et:token (b::bs.drop (p+1)) with
 |none=>rfl
 |some x=>have tp:=WZ et;simp only[];rw[<-e,drop_drop,Nh bs.length (bs.length+1) _ (bs.drop (p+x.2)) (by rw[length_drop];lia) (by rw[length_drop];lia)]
theorem oY{bs:Bytes}{p:Nat}{z:Int}(h:(Ii bs)[p]?=some z):∃b,bs[p]?=some b/\z=(b.toNat:Nat):=by unfold Ii at h;rw[getElem?_map] at h;obtain⟨b,e,rfl⟩:=map_eq_some_iff.mp h;exact⟨b,e,rfl⟩
theorem ck(b:UInt8):mR (b.toNat:Nat)=isBlank b:=by unfold mR isBlank;rw[Bool.eq_iff_iff];simp only[Bool.or_eq_true,beq_iff_eq,<-UInt8.toNat_inj];simp;lia
theorem su{bs:Bytes}{p:Nat}(h:bs[p]?=some 35):EM (Ii bs) p=p+1+((bs.drop (p+1)).takeWhile (· !=10)).length:=by
 have e:(Ii bs)[p]?=some 35:=by unfold Ii;rw[getElem?_map,h];rfl
 rw[<-WX e (by decide)];unfold EM Ii;rw[<-map_drop];congr 1;generalize bs.drop (p+1)=l;induction l with
 |nil=>rfl
 |cons x r ih=>
  rw[map_cons,takeWhile_cons,takeWhile_cons];have:(decide (((x.toNat:Nat):Int)≠10))=(x !=10):=by rw[Bool.eq_iff_iff];simp only[decide_eq_true_eq,bne_iff_ne,ne_eq,<-UInt8.toNat_inj];simp;lia
  rw[this];split
  ·rw[length_cons,length_cons,ih]
  ·rfl
theorem lY{bs:Bytes}{p q:Nat}(h:OR (Ii bs) p q):p<=bs.length->LX bs p=LX bs q/\q<=bs.length/\p<=q/\
  (bs[q]?=none\/∃b,bs[q]?=some b/\isBlank b=false/\(b==35)=false):=by
 induction h with
 |stop h=>
  intro hp;refine⟨rfl,hp,Nat.le_refl _,?_⟩;rcases h with h | ⟨z,h1,h2,h3⟩
  ·left
   unfold Ii at h;rw[getElem?_map] at h;exact map_eq_none_iff.mp h
  ·right
   obtain⟨b,e,rfl⟩:=oY h1;refine⟨b,e,by rw[<-ck];exact h2,?_⟩;rw[beq_eq_false_iff_ne];intro z;rw[z] at h3;exact h3 rfl
 |blank h hz r ih=>intro hp;obtain⟨b,e,rfl⟩:=oY h;have hp':=(List.getElem?_eq_some_iff.mp e).1;obtain⟨i1,i2,i3,i4⟩:=ih (by lia);refine⟨?_,i2,by lia,i4⟩;rw[oX e,if_pos (by rw[<-ck];exact hz)];exact i1
 | @rem p0 q0 h r ih=>intro hp;obtain⟨b,e,eb⟩:=oY h;have hp':=(List.getElem?_eq_some_iff.mp e).1;have b35:b=35:=UInt8.toNat_inj.mp (by show b.toNat=35;lia);subst b35;have rl:=su e;have tl:=(takeWhile_prefix (λx:UInt8=>x !=10) (l:=bs.drop (p0+1))).length_le;rw[length_drop] at tl;obtain⟨i1,i2,i3,i4⟩:=ih (by rw[rl];lia);refine⟨?_,i2,by lia,i4⟩;rw[oX e,if_neg (by decide),if_pos (by decide),<-rl];exact i1
section
structure dC(t:Bz)(H:Hp)(l:Addr)(ts:ValayBase.Toks)(as:List Addr):Prop where
 lst:H l=some (.lst (as.map V.ref))
 len:as.length=ts.length
 at_:∀(i:Nat) (a:Addr) (x:ValayBase.PTok),as[i]?=some a->ts[i]?=some x->Nb t.Co H a (kindOf x.tok) (NX x.tok) x.place
theorem Nb.same{k s:Str}{p:Nat}(h:Nb C H a k s p)(e:AR H H'):Nb C H' a k s p:=let ⟨dx,q⟩:=h;⟨dx,e _ _ q⟩
theorem dC.snoc{y:Addr}{ts:ValayBase.Toks}{x:ValayBase.PTok}(h:dC t H l ts as)(sm:∀b o,b≠l->H b=some o->H' b=some o)(hl:H' l=some (.lst ((as.map V.ref)++ [.ref y])))(hy:Nb t.Co H' y (kindOf x.tok) (NX x.tok) x.place):
  dC t H' l (ts++ [x]) (as++ [y]):=by
 refine⟨by rw[hl,map_append];rfl,by simp[h.len],λi b z hb hz=> ?_⟩;by_cases hi:i<as.length
 ·rw[getElem?_append_left hi] at hb;rw[getElem?_append_left (by rw[<-h.len];exact hi)] at hz;obtain⟨dx,e⟩:=h.at_ i b z hb hz;exact⟨dx,sm b _ (kF e h.lst (by intro q;cases q)) e⟩
 ·rw[getElem?_append_right (by lia)] at hb;rw[getElem?_append_right (by rw[<-h.len];lia)] at hz;have i0:i - as.length=0:=by
   have:=(List.getElem?_eq_some_iff.mp hb).1;simp at this;lia
  rw[i0] at hb;rw[<-h.len,i0] at hz;cases hb;cases hz;exact hy
inductive Vg(K:Frag)(t:Bz)(vs:List V)(H:Hp)(Q:VK)(E:XK):Prop | mk:∀(a:Addr) (bs:Bytes),vs=[.ref a]->A4 K H a (Gk bs)->bs.length<=8192->(match LX bs 0 with
 | .error f=>Gi t.BC E (AR H) f.code f.place
 | .ok ts=>∀l as H',AR H H'->dC t H' l ts as->Q (.ref l) H')->Vg K t vs H Q E
theorem fE:FT P w AJ T 6 t.Qq t.Qr ["text"] (Vg K t):=by
 refine T.Q8.Xg VY ?_;rintro _ A _ s H _ Q E hr ⟨a,bs,rfl,hS,hl,q⟩;have nd:=VY.nd;refine⟨_,(AD (ps_sl 1 nd (BU AE))
   (AD (ps_sl 2 nd (AV (Rj T) hr.lt rfl T.S8 T.Ic.kp (TZ T) .nil AK (AB (pv 0) (AB Aj AE))))
   (AD (FX PassesOwn.leaving (AU GR (pv 2) (AZ Ak rfl T.B7 PySem.boot_len (AB (pv 0) AE)) (AY _)) (AD (ps_sl 3 nd (AV (iK T) hr.lt rfl T.jk T.UI.kp (ju T) .nil (Ag λ_ _ z=>z) (AB (pv 0) (AB (pv 2) AE))))
   (AD (Au (Ua PySem.F.plainAttrs_list PySem.F.slot_list_append PySem.F.type_list_append Ht (pv 1) (AB (pv 3) AE)))
   (AH (ps_sl 2 nd (AV (Rj T) hr.lt rfl T.S8 T.Ic.kp (TZ T) .nil AK (AB (pv 0) (AB (An Ca (pv 2) (AZ U5 rfl T.B7 PySem.boot_len (AB (AQ (pv 3) rfl) AE))) AE))))))))
   (AD (Au (Ua PySem.F.plainAttrs_list PySem.F.slot_list_append PySem.F.type_list_append Ht (pv 1) (AB (CL T.Ul (Ff T) hr.lt rfl T.Uk (Gu T) .nil AK (AB Ah (AB Ah (AB (AZ Ak rfl T.B7 PySem.boot_len (AB (pv 0) AE)) AE)))) AE)))
   (AH (AO (pv 1))))))),?_⟩
 walk_at "rd";refine⟨zero_le _,λl hl0=> ?_⟩;refine⟨a,Ii bs,0,rfl,(AR.upd hl0).seq hS,λq0 sk0=> ?_⟩;obtain⟨k1,k2,_,k4⟩:=lY sk0 (zero_le _);have H0:AR H (upd H l (.lst [])):=AR.upd hl0;refine bU (λσ H'=>∃(ts:ValayBase.Toks) (as:List Addr) (v:Option V) (p:Nat),σ=[some (.ref a),some (.ref l),some (.int p),v]/\AR H H'/\dC t H' l ts as/\ts.length<=p/\p=bs.length/\
   LX bs 0=(LX bs p).map (ts++ ·)) (λnx hnx=> ?_) ?_
 ·refine KY (λσ H'=>∃(ts:ValayBase.Toks) (as:List Addr) (v:Option V) (p:Nat),σ=[some (.ref a),some (.ref l),some (.int p),v]/\AR H H'/\dC t H' l ts as/\ts.length<=p/\p<=bs.length/\
   (bs[p]?=none\/∃b,bs[p]?=some b/\isBlank b=false/\(b==35)=false)/\LX bs 0=(LX bs p).map (ts++ ·)) (λσ _=>bs.length - wy σ 2)
   ⟨[],[],none,q0,rfl,H0,⟨AG,rfl,λi a x h=>by simp at h⟩,zero_le _,k2,k4,by rw[k1];cases LX bs q0<;>rfl⟩ ?_
  rintro σ H' ⟨ts,as,v,p,rfl,sm,tl,hts,hp,hb,el⟩;walk_at "rd";refine⟨_,.inl (sm.seq hS),Az (λh1=> ?_) λh1=>hnx _ _ ⟨ts,as,v,p,rfl,sm,tl,hts,?_,el⟩⟩
  ·have h1:p<bs.length:=by simp[Ii] at h1;lia
   rcases hb with hb | ⟨b,hb,nb1,nb2⟩
   ·rw[List.getElem?_eq_none_iff] at hb;lia
   have ea:=oX hb;rw[if_neg (by rw[nb1];decide),if_neg (by rw[nb2];decide)] at ea;refine NZ ⟨a,bs,p,rfl,sm.seq hS,hl,h1,?_⟩;cases et:token (bs.drop p) with
   |none=>rw[et] at ea;rw[el,ea] at q;exact λdx H1 s1 e1=>q dx H1 (sm.trans s1) e1
   |some x=>
    rw[et] at ea;have ea:LX bs p=(LX bs (p+x.2)).map λl=>⟨p,x.1⟩::l:=ea;obtain⟨x1,x2,x3⟩:=WZ et;rw[length_drop] at x2;intro y H1 s1 ht;have hl1:=s1 _ _ tl.lst;have yl:y≠l:=let ⟨dx,e⟩:=ht;kF e hl1 (by intro z;cases z);obtain⟨dy,ey⟩:=ht;have sm2:AR H (upd H1 l (.lst (as.map V.ref++ [.ref y]))):=λb o e=>by rw[AM (Ax e hl0)];exact s1 _ _ (sm _ _ e)
    refine⟨.inl ⟨rfl,_,A4.of hl1⟩,_,hl1,?_,y,rfl,_,⟨_,_,_,by rw[AM yl];exact ey,T.Eo,T.CS,rfl⟩,_,rfl,?_,?_⟩
    ·rw[length_map,tl.len,sizeLine_eq];lia
    ·rw[x3,sizeLine_eq];lia
    ·rw[x3];refine⟨a,Ii bs,p+x.2,by simp,sm2.seq hS,λq' sk=> ?_⟩;obtain⟨m1,m2,m3,m4⟩:=lY sk (by lia);have tl2:dC t (upd H1 l (.lst (as.map V.ref++ [.ref y]))) l (ts++ [⟨p,x.1⟩]) (as++ [y]):=
      tl.snoc (x:=⟨p,x.1⟩) (λb o bl e=>by rw[AM bl];exact s1 _ _ e) AG ⟨dy,by rw[AM yl];exact ey⟩
     refine⟨⟨_,_,_,q',rfl,sm2,tl2,by simp;lia,m2,m4,?_⟩,?_⟩
     ·rw[el,ea,m1];cases LX bs q' with
      |error f=>rfl
      |ok z=>show Except.ok _=Except.ok _;simp
     ·show bs.length - q'<bs.length - p
      lia
  ·simp[Ii] at h1;lia
 ·rintro σ H' ⟨ts,as,v,p,rfl,sm,tl,hts,hp,el⟩;walk_at "rd";rw[vn (show bs.length<=p by lia)] at el;rw[el] at q;refine⟨.inl ⟨rfl,_,A4.of tl.lst⟩,_,.inl (sm.seq hS),λx dx hx hd ne=>⟨x,dx,_,rfl,rfl,AG,rfl,?_⟩⟩;have xl:x≠l:=λz=>by rw[z,tl.lst] at hx;cases hx
  have dl:dx≠l:=λz=>by rw[z,tl.lst] at hd;cases hd
  have hl2:upd (upd (upd H' dx (.own x)) x (.ins t.Co dx [])) x (.ins t.Co dx (jD [.str "end",.str "",.int (Gk bs).length])) l=some (.lst (as.map V.ref)):=by rw[AM (Ne.symm xl),AM (Ne.symm xl),AM (Ne.symm dl)];exact tl.lst
  refine⟨_,hl2,by rw[length_map,tl.len,sizeLine_eq];lia,?_⟩;refine q l (as++ [x]) _ ?_ ?_
  ·intro b o e;rw[AM (Ax e hl0),BR];exact AR.new hx hd b o (sm b o e)
  ·refine tl.snoc (x:=⟨p,.last⟩) (λb o bl e=> ?_) AG ⟨dx,?_⟩
   ·rw[AM bl,BR];exact AR.new hx hd b o e
   ·rw[AM xl,AG,hp];simp only[Gk,Ii,length_map];rfl
end
section
def pF(l:Addr)(i:Nat)(d:Addr):List (Str×V):=[("tokens",.ref l),("reached",.int i),("records",.ref d)]
structure iS(t:Bz)(H:Hp)(p dx l d:Addr)(ts:ValayBase.Toks)(as:List Addr)(i:Nat):Prop where
 at_:H p=some (.ins t.Al dx (pF l i d))
 tok:dC t H l ts as
 lt:i<ts.length
def Kp(p:Addr)(H H':Hp):Prop:=∀b o,b≠p->H b=some o->H' b=some o
theorem Kp.refl(p:Addr)(H:Hp):Kp p H H:=λ_ _ _ e=>e
theorem Kp.trans(a:Kp p H H1)(b:Kp p H1 H2):Kp p H H2:=λc o n e=>b c o n (a c o n e)
theorem Kp.of(a:AR H H1):Kp p H H1:=λc o _ e=>a c o e
theorem Kp.upd{p:Addr}{H:Hp}{o:HO}:Kp p H (upd H p o):=λc q n e=>by rw[AM n];exact e
theorem iS.fR{ts:ValayBase.Toks}(h:iS t H p dx l d ts as i):
  ∃x a,ts[i]?=some x/\as[i]?=some a/\iR (as.map V.ref) (i:Int)=some (.ref a)/\Nb t.Co H a (kindOf x.tok) (NX x.tok) x.place:=by
 obtain⟨x,ex⟩:∃x,ts[i]?=some x:=⟨_,getElem?_eq_getElem h.lt⟩;obtain⟨a,ea⟩:∃a,as[i]?=some a:=⟨_,getElem?_eq_getElem (by rw[h.tok.len];exact h.lt)⟩;exact⟨x,a,ex,ea,Fp (by rw[getElem?_map,ea];rfl),h.tok.at_ i a x ea ex⟩
theorem Yp{dy:Addr}{fs gs:List (Str×V)}(ha:H a=some (.ins C dx fs))(hb:H b=some (.ins D dy gs)){n m:List Str}(hn:fs.map (·.1)=n)(hm:gs.map (·.1)=m)(h:n≠m):a≠b:=by
 intro z;rw[z,hb] at ha;injection ha with e
 injection e with _ _ e
 exact h (by rw[<-hn,<-hm,e])
def ur:List Str:=["kind","written","place"]
def ie:List Str:=["tokens","reached","records"]
theorem iS.xi{ts:ValayBase.Toks}(h:iS t H p dx l d ts as i):l≠p:=kF h.tok.lst h.at_ (by intro z;cases z)
inductive PJ(t:Bz)(vs:List V)(H:Hp)(Q:VK)(E:XK):Prop | mk:∀p dx l d ts as i x,vs=[.ref p]->iS t H p dx l d ts as i->ts[i]?=some x->Q (.str (kindOf x.tok)) H->PJ t vs H Q E
theorem Ab:FT P w AJ T 1 t.GB t.GC ["self"] (PJ t):=by refine T.LZ.Cr Sb ?_;rintro _ A _ s H _ Q E hr ⟨p,dx,l,d,ts,as,i,x,rfl,st,ex,q⟩;refine⟨_,(AH (AO (AQ (BY Av (AQ (pv 0) rfl) (AQ (pv 0) rfl) (λ_ _=>rfl)) rfl))),?_⟩;walk_at "rd";obtain⟨x',a,ex',ea,ai,dt,eh⟩:=st.fR;rw[ex] at ex';cases ex';exact⟨_,⟨_,_,_,st.at_,T.AL,T.Bb,rfl⟩,_,⟨_,_,_,st.at_,T.AL,T.BH,rfl⟩,l,rfl,_,rfl,_,⟨_,A4.of st.tok.lst,ai⟩,a,rfl,_,⟨_,_,_,eh,T.Eo,T.VR,rfl⟩,q⟩
inductive YD(t:Bz)(vs:List V)(H:Hp)(Q:VK)(E:XK):Prop | mk:∀(p dx l d:Addr) (ts:ValayBase.Toks) (as:List Addr) (i c:Nat) (x:ValayBase.PTok),vs=[.ref p,.int c]->iS t H p dx l d ts as i->ts[i]?=some x->Gi t.BC E (AR H) c x.place->YD t vs H Q E
theorem Bv:FT P w AJ T 3 t.M3 t.M4 ["self","code"] (YD t):=by refine T.TM.Xg Zy ?_;rintro _ A _ s H _ Q E hr ⟨p,dx,l,d,ts,as,i,c,x,rfl,st,ex,q⟩;refine⟨_,(AH (Gn T.FK T.FN T.KC (CB T) hr.lt (Cc T) rfl T.IX (AB (pv 1) (AB (AQ (BY Av (AQ (pv 0) rfl) (AQ (pv 0) rfl) (λ_ _=>rfl)) rfl) AE)))),?_⟩;walk_at "rd";obtain⟨x',a,ex',ea,ai,dt,eh⟩:=st.fR;rw[ex] at ex';cases ex';exact⟨_,⟨_,_,_,st.at_,T.AL,T.Bb,rfl⟩,_,⟨_,_,_,st.at_,T.AL,T.BH,rfl⟩,l,rfl,_,rfl,_,⟨_,A4.of st.tok.lst,ai⟩,a,rfl,_,⟨_,_,_,eh,T.Eo,T.Ig,rfl⟩,λdx H1 _ e1 e2=>q dx H1 e2 e1⟩
inductive OU(t:Bz)(vs:List V)(H:Hp)(Q:VK)(E:XK):Prop | mk:∀(p dx l d:Addr) (ts:ValayBase.Toks) (as:List Addr) (i:Nat) (k:Str) (x:ValayBase.PTok),vs=[.ref p,.str k]->iS t H p dx l d ts as i->ts[i]?=some x->(if kindOf x.tok=k then Q (.str (NX x.tok)) (upd H p (.ins t.Al dx (pF l (i+1) d))) else Gi t.BC E (AR H) 3 x.place)->OU t vs H Q E
theorem Am:FT P w AJ T 4 t.M5 t.M6 ["self","kind"] (OU t):=by
 refine T.TN.Xg Zz ?_;rintro _ A _ s H _ Q E hr ⟨p,dx,l,d,ts,as,i,k,x,rfl,st,ex,q⟩;refine⟨_,(AD (Ay (AU FV (Ad (pv 0) T.AL T.Ae (Ab T) hr.lt (Af T) .nil AK) (pv 1) (AY _)) (AH (Au (Ac (pv 0) T.AL T.B9 (Bv T) hr.lt (CA T) .nil (Ag λ_ _ z=>z) (AB (A9 T.af) AE)))) AX)
   (AD (WA (pv 0) Aj iz)
   (AH (AO (AQ (BY Av (AQ (pv 0) rfl) (An D5 (AQ (pv 0) rfl) Aj) (λ_ _=>rfl)) rfl))))),?_⟩
 walk_at "rd";obtain⟨x',a,ex',ea,ai,dt,eh⟩:=st.fR;rw[ex] at ex';cases ex';refine⟨⟨_,_,st.at_,rfl⟩,p,dx,l,d,ts,as,i,x,rfl,st,ex,rfl,Az (λh1=> ?_) λh1=> ?_⟩
 ·rw[if_neg (λz=>h1 (congrArg V.str z))] at q;exact⟨⟨_,_,st.at_,rfl⟩,p,dx,l,d,ts,as,i,3,x,rfl,st,ex,q⟩
 ·have h1:kindOf x.tok=k:=V.str.inj (Classical.not_not.mp h1);rw[if_pos h1] at q;have lp:=st.xi;have ap:a≠p:=Yp (n:=ur) (m:=ie) eh st.at_ rfl rfl (by decide);have e0:Cg (Str.ofString "reached") (V.int ((i:Int)+1)) (pF l i d)=pF l (i+1) d:=rfl;refine⟨_,_,_,st.at_,T.AL,T.BH,_,rfl,_,rfl,_,_,st.at_,(by show 3<1000;decide),?_⟩;rw[e0];exact⟨_,⟨_,_,_,AG,T.AL,T.Bb,rfl⟩,_,⟨_,_,_,AG,T.AL,T.BH,rfl⟩,_,rfl,l,rfl,_,⟨_,A4.of (by rw[AM lp];exact st.tok.lst),
   (by rw[show (((i+1:Nat):Int) - 1)=(i:Int) by lia];exact ai)⟩,a,rfl,_,⟨_,_,_,by rw[AM ap];exact eh,T.Eo,T.CS,rfl⟩,q⟩
inductive wb(H:Hp)(d:Addr)(ns:List Str):Prop | mk:∀kvs:List (Key×V),H d=some (.dK kvs)->kvs.map (·.1)=ns.map Sum.inr->wb H d ns
theorem jz{kvs:List (Key×V)}{ns:List Str}(h:kvs.map (·.1)=ns.map Sum.inr)(x:Str):(EL kvs (Sum.inr x)).isSome=decide (x∈ns):=by
 rw[Bool.eq_iff_iff,decide_eq_true_eq];constructor
 ·intro z;obtain⟨v,e⟩:=isSome_iff_exists.mp z;have:=X7 e;rw[h] at this;obtain⟨y,hy,e2⟩:=mem_map.mp this;cases e2;exact hy
 ·intro z;cases e:EL kvs (Sum.inr x) with
  |some v=>rfl
  |none=>refine absurd ?_ (qH e);rw[h];exact mem_map.mpr ⟨x,z,rfl⟩
inductive IU(t:Bz)(vs:List V)(H:Hp)(Q:VK)(E:XK):Prop | mk:∀(p dx l d:Addr) (ts:ValayBase.Toks) (as:List Addr) (i:Nat) (x:ValayBase.PTok) (nd:Addr) (ns:List Str),vs=[.ref p,.ref nd]->iS t H p dx l d ts as i->ts[i]?=some x->wb H nd ns->(if kindOf x.tok= "name" then(if NX x.tok∈ns then Gi t.BC E (AR H) 5 x.place else Q (.str (NX x.tok)) (upd H p (.ins t.Al dx (pF l (i+1) d)))) else Gi t.BC E (AR H) 3 x.place)->IU t vs H Q E
theorem DZ:FT P w AJ T 5 t.Dj t.Dk ["self","names"] (IU t):=by
 refine T.Hb.Xg OL ?_;rintro _ A _ s H _ Q E hr ⟨p,dx,l,d,ts,as,i,x,nd,ns,rfl,st,ex,⟨kvs,hd,hk⟩,q⟩;refine⟨_,(AD (Ay (PW.pt (JK (AU B3 (Ad (pv 0) T.AL T.Ae (Ab T) hr.lt (Af T) .nil AK) Ah (AY _)) (Fo (ow (vR (YZ hr) (AQ (BY Av (AQ (pv 0) rfl) (AQ (pv 0) rfl) (λ_ _=>rfl)) rfl) (pv 1)))))) (AH (Au (Ac (pv 0) T.AL T.B9 (Bv T) hr.lt (CA T) .nil (Ag λ_ _ z=>z) (AB (A9 T.eR) AE)))) AX)
   (AH (AO (Ac (pv 0) T.AL T.Aq (Am T) hr.lt (Ar T) .nil (Ag λ_ _ z=>z) (AB Ah AE))))),?_⟩
 walk_at "rd";obtain⟨x',a,ex',ea,ai,dt,eh⟩:=st.fR;rw[ex] at ex';cases ex';refine⟨⟨_,_,st.at_,rfl⟩,p,dx,l,d,ts,as,i,x,rfl,st,ex,rfl,Az (λh1=> ?_) λh1=> ?_⟩
 ·have h1:kindOf x.tok= "name":=V.str.inj h1;rw[if_pos h1] at q;refine⟨_,⟨_,_,_,st.at_,T.AL,T.Bb,rfl⟩,_,⟨_,_,_,st.at_,T.AL,T.BH,rfl⟩,l,rfl,_,rfl,_,⟨_,A4.of st.tok.lst,ai⟩,a,rfl,_,⟨_,_,_,eh,T.Eo,T.CS,rfl⟩,_,SV.k (k:=Sum.inr (NX x.tok)) hd,?_⟩;rw[jz hk];refine Az (λh2=> ?_) λh2=> ?_
  ·rw[if_pos (of_decide_eq_true h2)] at q;exact⟨⟨_,_,st.at_,rfl⟩,p,dx,l,d,ts,as,i,5,x,rfl,st,ex,q⟩
  ·rw[if_neg (λz=>h2 (decide_eq_true z))] at q;refine⟨⟨_,_,st.at_,rfl⟩,p,dx,l,d,ts,as,i,_,x,rfl,st,ex,?_⟩;rw[if_pos h1];exact q
 ·have h1:¬kindOf x.tok= "name":=λz=>h1 (congrArg V.str z);rw[if_neg h1] at q;refine⟨⟨_,_,st.at_,rfl⟩,p,dx,l,d,ts,as,i,_,x,rfl,st,ex,?_⟩;rw[if_neg h1];exact q
theorem gS(h:n<10 ^ 10):intText? (fQ n)=some (n:Int)/\(fQ n).length<=640:=by have l1:(TL.Pt n).length<=10:=TL.f6 (by decide) h;refine⟨TL.sE (by lia),?_⟩;unfold fQ;rw[TL.Yl,TL.Me];lia
def yH(ts:ValayBase.Toks):Prop:=∀(i:Nat) (x:ValayBase.PTok) (n:Nat),ts[i]?=some x->x.tok= .num n->n<10 ^ 10
end
end Pr
namespace Pr
open PySem PySem.Spec PyProof.Rows L2
open ValayBase (PTok Toks)
theorem ig{s:Str}{l:List Nat}(h:Gj l=s):s.length=l.length:=by rw[<-h,EG]
theorem Ni{b:Bytes}(h:ValayBase.RESERVED.contains b=true):strOf b≠Str.ofString "name"/\strOf b≠Str.ofString "number"/\strOf b≠Str.ofString "end"/\2<=b.length:=by
 have all:∀b∈RESERVED,strOf b≠Str.ofString "name"/\strOf b≠Str.ofString "number"/\strOf b≠Str.ofString "end"/\2<=b.length:=by decide+kernel
 exact all b (contains_iff_mem.mp h)
theorem w1:Str.ofString "number"≠Str.ofString "name":=by decide+kernel
theorem w2:Str.ofString "end"≠Str.ofString "name":=by decide+kernel
theorem w3:Str.ofString "end"≠Str.ofString "number":=by decide+kernel
theorem l1:¬(Str.ofString "name").length=[c].length:=by show ¬(Str.ofString "name").length=1;decide+kernel
theorem l2:¬(Str.ofString "number").length=[c].length:=by show ¬(Str.ofString "number").length=1;decide+kernel
theorem l3:¬(Str.ofString "end").length=[c].length:=by show ¬(Str.ofString "end").length=1;decide+kernel
theorem Wa{k:ValayBase.Tok}:kindOf k=Str.ofString "name"↔∃b,k= .name b/\ValayBase.RESERVED.contains b=false:=by
 cases k with
 |name b=>
  show Lp b=_↔_;unfold Lp;by_cases h:ValayBase.RESERVED.contains b=true
  ·rw[if_pos h];refine⟨λz=>absurd z (Ni h).1,?_⟩;rintro⟨b',e,z⟩;cases e;rw[h] at z;cases z
  ·rw[if_neg h];exact⟨λ_=>⟨b,rfl,by simpa using h⟩,λ_=>rfl⟩
 |num n=>exact⟨λz=>absurd z w1,λ⟨_,e,_⟩=>(by cases e)⟩
 |sign c=>exact⟨λz=>absurd (ig z) l1,λ⟨_,e,_⟩=>(by cases e)⟩
 |last=>exact⟨λz=>absurd z w2,λ⟨_,e,_⟩=>(by cases e)⟩
theorem gT{k:ValayBase.Tok}:kindOf k=Str.ofString "number"↔∃n,k= .num n:=by
 cases k with
 |name b=>
  show Lp b=_↔_;unfold Lp;by_cases h:ValayBase.RESERVED.contains b=true
  ·rw[if_pos h];exact⟨λz=>absurd z (Ni h).2.1,λ⟨_,e⟩=>(by cases e)⟩
  ·rw[if_neg h];exact⟨λz=>absurd z.symm w1,λ⟨_,e⟩=>(by cases e)⟩
 |num n=>exact⟨λ_=>⟨n,rfl⟩,λ_=>rfl⟩
 |sign c=>exact⟨λz=>absurd (ig z) l2,λ⟨_,e⟩=>(by cases e)⟩
 |last=>exact⟨λz=>absurd z w3,λ⟨_,e⟩=>(by cases e)⟩
theorem Uz{k:ValayBase.Tok}:kindOf k=Str.ofString "end"↔k= .last:=by
 cases k with
 |name b=>
  show Lp b=_↔_;unfold Lp;by_cases h:ValayBase.RESERVED.contains b=true
  ·rw[if_pos h];exact⟨λz=>absurd z (Ni h).2.2.1,λe=>(by cases e)⟩
  ·rw[if_neg h];exact⟨λz=>absurd z.symm w2,λe=>(by cases e)⟩
 |num n=>exact⟨λz=>absurd z.symm w3,λe=>(by cases e)⟩
 |sign c=>exact⟨λz=>absurd (ig z) l3,λe=>(by cases e)⟩
 |last=>exact⟨λ_=>rfl,λ_=>rfl⟩
theorem BN{k:ValayBase.Tok}:kindOf k=Gj [c]↔k= .sign c:=by
 cases k with
 |name b=>
  show Lp b=_↔_;unfold Lp;by_cases h:ValayBase.RESERVED.contains b=true
  ·rw[if_pos h];refine⟨λz=> ?_,λe=>(by cases e)⟩;have z2:=congrArg Str.length z;unfold strOf at z2;rw[EG,EG,length_map] at z2;have:=(Ni h).2.2.2;simp at z2;lia
  ·rw[if_neg h];exact⟨λz=>absurd (ig z.symm) l1,λe=>(by cases e)⟩
 |num n=>exact⟨λz=>absurd (ig z.symm) l2,λe=>(by cases e)⟩
 |sign d=>refine⟨λz=> ?_,λe=>by cases e;rfl⟩;have z2:=congrArg TL.tl z;have z3:[d]=[c]:=z2;cases z3;rfl
 |last=>exact⟨λz=>absurd (ig z.symm) l3,λe=>(by cases e)⟩
structure Res(s:String):Prop where
 mem:ValayBase.RESERVED.contains (ValayBase.word s)=true
 str:strOf (ValayBase.word s)=Str.ofString s
theorem SR{s:String}(R:Res s){k:ValayBase.Tok}:kindOf k=Str.ofString s↔k= .name (ValayBase.word s):=by
 have k0:=Ni R.mem;rw[R.str] at k0;cases k with
 |name b=>
  show Lp b=_↔_;unfold Lp;by_cases h:ValayBase.RESERVED.contains b=true
  ·rw[if_pos h,<-R.str];exact⟨λz=>by rw[Nu z],λe=>by cases e;rfl⟩
  ·rw[if_neg h];refine⟨λz=>absurd z.symm k0.1,λe=> ?_⟩;cases e;exact absurd R.mem h
 |num n=>exact⟨λz=>absurd z.symm k0.2.1,λe=>(by cases e)⟩
 |sign c=>refine⟨λz=> ?_,λe=>(by cases e)⟩;have z2:=ig z;rw[<-R.str] at z2;unfold strOf at z2;rw[EG,length_map] at z2;have:=k0.2.2.2;simp at z2;lia
 |last=>exact⟨λz=>absurd z.symm k0.2.2.1,λe=>(by cases e)⟩
theorem nV{a b:ValayBase.Tok}:tokEq a b=true↔a=b:=by
 cases a<;>cases b<;>simp[tokEq]
section
theorem SK(h:ts[i]?=some x):here (ts.drop i)=x.place:=by rw[Fq h];rfl
theorem Ep(h:ts[i]?=some x)(k:ValayBase.Tok):ValayBase.next k (ts.drop i)=true↔x.tok=k:=by rw[Fq h];exact nV
theorem EO(h:ts[i]?=some x)(k:ValayBase.Tok):(x.tok=k->taken k (ts.drop i)= .ok (ts.drop (i+1)))/\(x.tok≠k->taken k (ts.drop i)= .error ⟨3,x.place⟩):=by
 unfold taken;refine⟨λe=> ?_,λe=> ?_⟩
 ·rw[if_pos ((Ep h k).mpr e),drop_drop]
 ·rw[if_neg (λz=>e ((Ep h k).mp z))];unfold wrong;rw[SK h]
theorem ER(h:ts[i]?=some x):(∀b,x.tok= .name b->ValayBase.RESERVED.contains b=false->takeName (ts.drop i)= .ok (⟨x.place,b⟩,ts.drop (i+1)))/\
  (kindOf x.tok≠Str.ofString "name"->takeName (ts.drop i)= .error ⟨3,x.place⟩):=by
 rw[Fq h];obtain⟨p,k⟩:=x;refine⟨λb e r=> ?_,λe=> ?_⟩
 ·cases e;show (if ValayBase.RESERVED.contains b=true then _ else _)=_;rw[if_neg (by rw[r];decide)]
 ·cases k with
  |name b=>
   show (if ValayBase.RESERVED.contains b=true then _ else _)=_;have:ValayBase.RESERVED.contains b=true:=by
    cases z:ValayBase.RESERVED.contains b with
    |true=>rfl
    |false=>exact absurd (Wa.mpr ⟨b,rfl,z⟩) e
   rw[if_pos this];rfl
  |num n=>rfl
  |sign c=>rfl
  |last=>rfl
end
section
structure xj(ts:Toks):Prop where
 last:∀(i:Nat) (x:PTok),ts[i]?=some x->x.tok≠ .last->i+1<ts.length
 num:yH ts
theorem iS.step(h:iS t H p dx l d ts as i)(k:Kp p H H')(e:H' p=some (.ins t.Al dx (pF l j d)))(hj:j<ts.length):iS t H' p dx l d ts as j:=
 ⟨e,⟨k _ _ h.xi h.tok.lst,h.tok.len,λi a x ha hx=>let ⟨dy,q⟩:=h.tok.at_ i a x ha hx;⟨dy,k _ _ (Yp (n:=ur) (m:=ie) q h.at_ rfl rfl (by decide)) q⟩⟩,hj⟩
def BQ(t:Bz)(E:XK)(Q:VK)(H:Hp)(p dx l d:Addr)(ts:Toks){α:Type}(R:Hp->V->α->Prop)(r:Except Fault (α×Toks)):Prop:=match r with
 | .error f=>Gi t.BC E (Kp p H) f.code f.place
 | .ok x=>∀v H' j,Kp p H H'->H' p=some (.ins t.Al dx (pF l j d))->j<ts.length->ts.drop j=x.2->R H' v x.1->Q v H'
theorem Gi.same(h:Gi C E (Kp p H) c n)(k:Kp p H H'):Gi C E (AR H') c n:=λdx H1 s e=>h dx H1 (k.trans (Kp.of s)) e
theorem Gi.kp(h:Gi C E (Kp p H) c n)(k:Kp p H H'):Gi C E (Kp p H') c n:=λdx H1 s e=>h dx H1 (k.trans s) e
structure Hg(t:Bz)(H:Hp)(p dx l d:Addr)(ts:Toks)(as:List Addr)(i:Nat)(x:PTok):Prop extends iS t H p dx l d ts as i where
 Ce:ts[i]?=some x
 ok:xj ts
theorem Hg.next(h:Hg t H p dx l d ts as i x)(k:Kp p H H')(e:H' p=some (.ins t.Al dx (pF l j d)))(hj:j<ts.length):∃y,Hg t H' p dx l d ts as j y/\ts[j]?=some y:=
 ⟨_,⟨h.toiS.step k e hj,getElem?_eq_getElem hj,h.ok⟩,getElem?_eq_getElem hj⟩
inductive Rk(t:Bz)(vs:List V)(H:Hp)(Q:VK)(E:XK):Prop | mk:∀p dx l d ts as i x,∀lo hi:Nat,vs=[.ref p,.int lo,.int hi]->Hg t H p dx l d ts as i x->BQ t E Q H p dx l d ts (λ_ v n=>v= .int (n:Nat)) (takeCount lo hi (ts.drop i))->Rk t vs H Q E
theorem B5:FT P w AJ T 5 t.EY t.EZ ["self","least","greatest"] (Rk t):=by
 refine T.JC.Xg P5 ?_;rintro _ A _ s H _ Q E hr ⟨p,dx,l,d,ts,as,i,x,lo,hi,rfl,st,q⟩;refine⟨_,(AD (Ay (PW.pt (JK (AU B3 (Ad (pv 0) T.AL T.Ae (Ab T) hr.lt (Af T) .nil AK) Ah (AY _)) (Fo (Mc (Nd Jj Jj (pv 1) (CM Ew rfl T.bX boot_int (AB (AQ (BY Av (AQ (pv 0) rfl) (AQ (pv 0) rfl) (λ_ _=>rfl)) rfl) AE)) (pv 2)))))) (AH (Au (Ac (pv 0) T.AL T.B9 (Bv T) hr.lt (CA T) .nil (Ag λ_ _ z=>z) (AB (A9 T.Jg) AE)))) AX)
   (AH (AO (CM Ew rfl T.bX boot_int (AB (Ac (pv 0) T.AL T.Aq (Am T) hr.lt (Ar T) .nil (Ag λ_ _ z=>z) (AB Ah AE)) AE))))),?_⟩
 walk_at "rd";have ex:=st.Ce;obtain⟨x',a,ex',ea,ai,dt,eh⟩:=st.fR;rw[ex] at ex';cases ex';rw[Fq ex] at q;refine⟨⟨_,_,st.at_,rfl⟩,p,dx,l,d,ts,as,i,x,rfl,st.toiS,ex,rfl,Az (λh1=> ?_) λh1=> ?_⟩
 ·obtain⟨n,en⟩:=gT.mp (V.str.inj h1);obtain⟨n1,n2⟩:=gS (st.ok.num i x n ex en);have q2:BQ t E Q H p dx l d ts (λ_ v n=>v= .int (n:Nat)) (if n<lo\/hi<n then .error ⟨7,x.place⟩ else .ok (n,ts.drop (i+1))):=by
   obtain⟨xp,xk⟩:=x;cases en;exact q
  have ew:NX x.tok=fQ n:=by rw[en];rfl
  have il:i+1<ts.length:=st.ok.last i x ex (by rw[en];intro z;cases z);have st:=st.toiS;rw[ew] at eh;refine⟨_,⟨_,_,_,st.at_,T.AL,T.Bb,rfl⟩,_,⟨_,_,_,st.at_,T.AL,T.BH,rfl⟩,l,rfl,_,rfl,_,⟨_,A4.of st.tok.lst,ai⟩,a,rfl,_,⟨_,_,_,eh,T.Eo,T.CS,rfl⟩,_,rfl,_,n1,n2,?_⟩;have bad:(n<lo\/hi<n)->YD t [V.ref p,V.int (7:Nat)] H (λx H1=>Ij t.Al H1 p (Str.ofString "take")/\
    OU t [V.ref p,V.str (Str.ofString "number")] H1 (λx H1=>∃a,x=V.str a/\∃x,intText? a=some x/\a.length<=640/\Q (V.int x) H1) E) E:=λz=>by
   rw[if_pos z] at q2;exact⟨p,dx,l,d,ts,as,i,7,x,rfl,st,ex,Gi.same q2 (Kp.refl p H)⟩
  refine Az (λh2=>Az (λh3=>⟨⟨_,_,st.at_,rfl⟩,bad (by lia)⟩) λh3=>⟨⟨_,_,st.at_,rfl⟩,p,dx,l,d,ts,as,i,_,x,rfl,st,ex,?_⟩) λh2=>⟨⟨_,_,st.at_,rfl⟩,bad (by lia)⟩;rw[if_pos (V.str.inj h1),ew];rw[if_neg (by lia)] at q2;exact⟨_,rfl,_,n1,n2,q2 _ _ (i+1) Kp.upd AG il rfl rfl⟩
 ·have h1:¬kindOf x.tok=Str.ofString "number":=λz=>h1 (congrArg V.str z);have q2:Gi t.BC E (Kp p H) 3 x.place:=by
   obtain⟨xp,xk⟩:=x;cases xk with
   |num n=>exact absurd rfl h1
   |name b=>exact q
   |sign c=>exact q
   |last=>exact q
  refine⟨⟨_,_,st.at_,rfl⟩,p,dx,l,d,ts,as,i,_,x,rfl,st.toiS,ex,?_⟩;rw[if_neg h1];exact q2.same (Kp.refl p H)
theorem gU{k:Nat}(h:ts.drop j=ts.drop k)(hj:j<ts.length)(hk:k<ts.length):j=k:=by have:=congrArg List.length h;rw[length_drop,length_drop] at this;lia
inductive NS(t:Bz)(vs:List V)(H:Hp)(Q:VK)(E:XK):Prop | mk:∀p dx l d ts as i x,vs=[.ref p]->Hg t H p dx l d ts as i x->(match takeInt (ts.drop i) with
 | .error f=>Gi t.BC E (Kp p H) f.code f.place
 | .ok r=>∀H' j,Kp p H H'->H' p=some (.ins t.Al dx (pF l (j+1) d))->j+1<ts.length->ts.drop (j+1)=r.2.2->(∃y,ts[j]?=some y/\y.place=r.2.1)->Q (.int r.1) H')->NS t vs H Q E
theorem count_at(h:ts[i]?=some x)(lo hi:Nat):takeCount lo hi (ts.drop i)=(match x.tok with
  | .num n=>if n<lo\/hi<n then .error ⟨7,x.place⟩ else .ok (n,ts.drop (i+1))
  |_=> .error ⟨3,x.place⟩):=by
 rw[Fq h];obtain⟨xp,xk⟩:=x;cases xk<;>rfl
theorem int_at(h:ts[i]?=some x)(hm:x.tok≠ .sign 45):takeInt (ts.drop i)=(match x.tok with
  | .num n=>if LARGE<n then .error ⟨7,x.place⟩ else .ok ((n:Int),x.place,ts.drop (i+1))
  |_=> .error ⟨3,x.place⟩):=by
 have nm:ValayBase.next (.sign 45) (ts.drop i)=false:=by
  cases z:ValayBase.next (.sign 45) (ts.drop i) with
  |false=>rfl
  |true=>exact absurd ((Ep h _).mp z) hm
 unfold takeInt;simp only[nm,Bool.false_eq_true,if_false];rw[Fq h];obtain⟨xp,xk⟩:=x;cases xk<;>rfl
theorem nW(h:ts[i]?=some x)(hm:x.tok= .sign 45)(hy:ts[i+1]?=some y):takeInt (ts.drop i)=(match y.tok with
  | .num n=>if LARGE<n then .error ⟨7,y.place⟩ else .ok (-(n:Int),y.place,ts.drop (i+2))
  |_=> .error ⟨3,y.place⟩):=by
 have nm:ValayBase.next (.sign 45) (ts.drop i)=true:=(Ep h _).mpr hm
 unfold takeInt;simp only[nm,if_true];rw[drop_drop,Fq hy];obtain⟨xp,xk⟩:=y;cases xk<;>rfl
theorem JI:FT P w AJ T 6 t.FD t.FE ["self"] (NS t):=by
 refine T.Jt.Xg R7 ?_;rintro _ A _ s H _ Q E hr ⟨p,dx,l,d,ts,as,i,x,rfl,st,q⟩;refine⟨_,(AD (Ay (AU FV (Ad (pv 0) T.AL T.Ae (Ab T) hr.lt (Af T) .nil AK) Ah (AY _)) (AH (AO (Ac (pv 0) T.AL T.CF (B5 T) hr.lt (CG T) .nil (Ag λ_ _ z=>z) (AB Aj (AB (A9 T.OB) AE))))) AX)
   (AD (Au (Ac (pv 0) T.AL T.Aq (Am T) hr.lt (Ar T) .nil (Ag λ_ _ z=>z) (AB Ah AE)))
   (AH (AO (fU Yi (Ac (pv 0) T.AL T.CF (B5 T) hr.lt (CG T) .nil (Ag λ_ _ z=>z) (AB Aj (AB (A9 T.OB) AE)))))))),?_⟩
 walk_at "rd";have ex:=st.Ce;refine⟨⟨_,_,st.at_,rfl⟩,p,dx,l,d,ts,as,i,x,rfl,st.toiS,ex,rfl,Az (λh1=> ?_) λh1=> ?_⟩
 ·have h1:x.tok≠ .sign 45:=λz=>h1 (by rw[BN.mpr z];rfl);rw[int_at ex h1] at q;refine⟨⟨_,_,st.at_,rfl⟩,p,dx,l,d,ts,as,i,x,0,1000000,rfl,st,?_⟩;rw[count_at ex];obtain⟨xp,xk⟩:=x;cases xk with
  |num n=>
   have il:=st.ok.last i _ ex (by intro z;cases z);dsimp only at q ⊢;by_cases z:LARGE<n
   ·rw[if_pos (.inr z)];rw[if_pos z] at q;exact q
   ·rw[if_neg (λy=>y.elim (λy=>by lia) z)];rw[if_neg z] at q;intro v H' j k1 k2 k3 k4 k5;have ej:=gU k4 k3 il;subst ej k5;exact q H' i k1 k2 k3 rfl ⟨_,ex,rfl⟩
  |name b=>exact q
  |sign c=>exact q
  |last=>exact q
 ·have h1:x.tok= .sign 45:=BN.mp (V.str.inj (Classical.not_not.mp h1));have il:=st.ok.last i x ex (by rw[h1];intro z;cases z);obtain⟨y,st2,ey⟩:=st.next (H':=upd H p (.ins t.Al dx (pF l (i+1) d))) Kp.upd AG il
  rw[nW ex h1 ey] at q;refine⟨⟨_,_,st.at_,rfl⟩,p,dx,l,d,ts,as,i,_,x,rfl,st.toiS,ex,?_⟩;rw[if_pos (by rw[BN.mpr h1];rfl)];refine⟨⟨_,_,AG,rfl⟩,p,dx,l,d,ts,as,i+1,y,0,1000000,rfl,st2,?_⟩;rw[count_at ey];obtain⟨xp,xk⟩:=y;cases xk with
  |num n=>
   have il2:=st.ok.last (i+1) _ ey (by intro z;cases z);dsimp only at q ⊢;by_cases z:LARGE<n
   ·rw[if_pos (.inr z)];rw[if_pos z] at q;exact Gi.kp q Kp.upd
   ·rw[if_neg (λy=>y.elim (λy=>by lia) z)];rw[if_neg z] at q;intro v H' j k1 k2 k3 k4 k5;have ej:=gU k4 k3 il2;subst ej k5;exact⟨_,rfl,q H' (i+1) (Kp.upd.trans k1) k2 k3 rfl ⟨_,ey,rfl⟩⟩
  |name b=>exact Gi.kp q Kp.upd
  |sign c=>exact Gi.kp q Kp.upd
  |last=>exact Gi.kp q Kp.upd
end
section
theorem Gi.of(h:Gi C E (Kp p H) c n):Gi C E (AR H) c n:=h.same (Kp.refl p H)
theorem BQ.kp{α:Type}{R:Hp->V->α->Prop}{r:Except Fault (α×Toks)}(q:BQ t E Q H p dx l d ts R r)(k:Kp p H H'):BQ t E Q H' p dx l d ts R r:=by
 cases r with
 |error f=>exact Gi.kp q k
 |ok a=>exact λv H1 j k1=>q v H1 j (k.trans k1)
theorem BQ.bind{α β:Type}{R:Hp->V->α->Prop}{R0:Hp->V->β->Prop}{r:Except Fault (α×Toks)}{f:α×Toks->Except Fault (β×Toks)}(st:Hg t H p dx l d ts as i x)(q:BQ t E Q H p dx l d ts R0 (r.bind f))
  (k:∀v H' j y a,Kp p H H'->Hg t H' p dx l d ts as j y->R H' v a->BQ t E Q H' p dx l d ts R0 (f (a,ts.drop j))->Q' v H'):BQ t E Q' H p dx l d ts R r:=by
 cases r with
 |error f=>exact q
 |ok a=>
  intro v H1 j k1 k2 k3 k4 k5;obtain⟨y,s1,_⟩:=st.next k1 k2 k3
  refine k v H1 j y a.1 k1 s1 k5 ?_;rw[k4];exact BQ.kp q k1
theorem BQ.map{α β:Type}{R:Hp->V->α->Prop}{R0:Hp->V->β->Prop}{r:Except Fault (α×Toks)}{f:α×Toks->β×Toks}(st:Hg t H p dx l d ts as i x)(q:BQ t E Q H p dx l d ts R0 (r.map f))
  (k:∀v H' j y a,Kp p H H'->Hg t H' p dx l d ts as j y->R H' v a->BQ t E Q H' p dx l d ts R0 (.ok (f (a,ts.drop j)))->Q' v H'):BQ t E Q' H p dx l d ts R r:=by
 refine BQ.bind (R0:=R0) (f:=λz=> .ok (f z)) st ?_ k;cases r with
 |error f=>exact q
 |ok a=>exact q
theorem BQ.done{α:Type}{R:Hp->V->α->Prop}{a:α}{v:V}(q:BQ t E Q H p dx l d ts R (.ok (a,ts.drop j)))(st:Hg t H p dx l d ts as j y)(k:Kp p H H')(e:H' p=H p)(r:R H' v a):Q v H':=
 q v H' j k (by rw[e];exact st.at_) st.lt rfl r
theorem Er(st:Hg t H p dx l d ts as i x)(q:Q (.str (kindOf x.tok)) H):Ij t.Al H p (Str.ofString "next_kind")/\PJ t [V.ref p] H Q E:=
 ⟨⟨_,_,st.at_,rfl⟩,p,dx,l,d,ts,as,i,x,rfl,st.toiS,st.Ce,q⟩
theorem Um(st:Hg t H p dx l d ts as i x)(q:Gi t.BC E (Kp p H) c x.place):Ij t.Al H p (Str.ofString "fail")/\YD t [V.ref p,V.int c] H Q E:=
 ⟨⟨_,_,st.at_,rfl⟩,p,dx,l,d,ts,as,i,c,x,rfl,st.toiS,st.Ce,q.of⟩
theorem IZ{k:Str}(st:Hg t H p dx l d ts as i x)(hk:k≠Str.ofString "end")(good:kindOf x.tok=k->∀H' y,Kp p H H'->Hg t H' p dx l d ts as (i+1) y->Q (.str (NX x.tok)) H')
  (bad:kindOf x.tok≠k->Gi t.BC E (Kp p H) 3 x.place):Ij t.Al H p (Str.ofString "take")/\OU t [V.ref p,V.str k] H Q E:=by
 refine⟨⟨_,_,st.at_,rfl⟩,p,dx,l,d,ts,as,i,k,x,rfl,st.toiS,st.Ce,?_⟩;refine Az (λh=> ?_) λh=>(bad h).of;have il:=st.ok.last i x st.Ce (λz=>hk (by rw[<-h,Uz.mpr z]));obtain⟨y,s1,_⟩:=st.next (H':=upd H p (.ins t.Al dx (pF l (i+1) d))) Kp.upd AG il
 exact good h _ y Kp.upd s1
theorem qp{β:Type}{R0:Hp->V->β->Prop}{k:Str}{tk:ValayBase.Tok}{f:Toks->Except Fault (β×Toks)}(st:Hg t H p dx l d ts as i x)(hk:k≠Str.ofString "end")(ht:∀z,kindOf z=k↔z=tk)
  (q:BQ t E Q H p dx l d ts R0 ((taken tk (ts.drop i)).bind f)) (good:∀H' y,Kp p H H'->Hg t H' p dx l d ts as (i+1) y->BQ t E Q H' p dx l d ts R0 (f (ts.drop (i+1)))->Q0 (.str (NX x.tok)) H'):
  Ij t.Al H p (Str.ofString "take")/\OU t [V.ref p,V.str k] H Q0 E:=by
 refine IZ st hk (λh H' y k1 s1=>good H' y k1 s1 ?_) λh=> ?_
 ·rw[(EO st.Ce tk).1 ((ht _).mp h)] at q;exact BQ.kp q k1
 ·rw[(EO st.Ce tk).2 (λz=>h ((ht _).mpr z))] at q;exact q
theorem Ik{k:Str}(st:Hg t H p dx l d ts as i x)(hk:k≠Str.ofString "end")(h:kindOf x.tok=k)(good:∀H' y,Kp p H H'->Hg t H' p dx l d ts as (i+1) y->Q0 (.str (NX x.tok)) H'):
  Ij t.Al H p (Str.ofString "take")/\OU t [V.ref p,V.str k] H Q0 E:=
 IZ st hk (λ_=>good) λz=>absurd h z
theorem Ba{s:String}(R:Res s)(st:Hg t H p dx l d ts as i x):nextWord s (ts.drop i)=true↔kindOf x.tok=Str.ofString s:=by rw[SR R];exact Ep st.Ce _
theorem eA:Res "hot":=⟨by decide+kernel,by decide+kernel⟩
theorem jF:Res "at":=⟨by decide+kernel,by decide+kernel⟩
theorem Y5:Res "from":=⟨by decide+kernel,by decide+kernel⟩
theorem pT:Res "to":=⟨by decide+kernel,by decide+kernel⟩
theorem Wb:Res "maybe":=⟨by decide+kernel,by decide+kernel⟩
theorem Y6:Res "many":=⟨by decide+kernel,by decide+kernel⟩
theorem eB:Res "one":=⟨by decide+kernel,by decide+kernel⟩
theorem Fw:Res "record":=⟨by decide+kernel,by decide+kernel⟩
theorem Res.ne{s:String}(R:Res s):Str.ofString s≠Str.ofString "end":=by have k0:=Ni R.mem;rw[R.str] at k0;exact k0.2.2.1
theorem Yb:(ts.drop i).drop 1=ts.drop (i+1):=by rw[drop_drop]
def isInt:Hp->V->Nat->Prop:=λ_ v n=>v= .int (n:Nat)
def Yc(l:Toks):Except Fault (Nat×Toks):=if nextWord "hot" l=true then takeCount 1 1000 (l.drop 1) else .ok (1,l)
inductive Xa(t:Bz)(vs:List V)(H:Hp)(Q:VK)(E:XK):Prop | mk:∀p dx l d ts as i x,vs=[.ref p]->Hg t H p dx l d ts as i x->BQ t E Q H p dx l d ts isInt (Yc (ts.drop i))->Xa t vs H Q E
theorem UU:FT P w AJ T 6 t.HH t.HI ["self"] (Xa t):=by
 refine T.MK.Xg US ?_;rintro _ A _ s H _ Q E hr ⟨p,dx,l,d,ts,as,i,x,rfl,st,q⟩;refine⟨_,(AD (Ay (AU FV (Ad (pv 0) T.AL T.Ae (Ab T) hr.lt (Af T) .nil AK) Ah (AY _)) (AH (AO Aj)) AX)
   (AD (Au (Ac (pv 0) T.AL T.Aq (Am T) hr.lt (Ar T) .nil (Ag λ_ _ z=>z) (AB Ah AE)))
   (AH (AO (Ac (pv 0) T.AL T.CF (B5 T) hr.lt (CG T) .nil (Ag λ_ _ z=>z) (AB Aj (AB (A9 T.nN) AE))))))),?_⟩
 walk_at "rd";unfold Yc at q;refine Er st ⟨rfl,Az (λh1=> ?_) λh1=> ?_⟩
 ·rw[if_neg (λz=>h1 (congrArg V.str ((Ba eA st).mp z)))] at q;exact q.done st (Kp.refl _ _) rfl rfl
 ·have h1:=V.str.inj (Classical.not_not.mp h1);rw[if_pos ((Ba eA st).mpr h1),Yb] at q;exact Ik st eA.ne h1 λH' y k1 s1=>⟨⟨_,_,s1.at_,rfl⟩,p,dx,l,d,ts,as,_,y,1,1000,rfl,s1,BQ.kp q k1⟩
theorem ze(n:Nat):mI (V.int n) [V.int 1,V.int 2,V.int 4,V.int 8,V.int 16,V.int 32]=Valaya.ALIGNS.contains n:=by
 rw[Bool.eq_iff_iff];simp only[mI,mH,ALIGNS,contains_iff_mem,mem_cons,any_cons,any_nil,Bool.or_eq_true,decide_eq_true_eq,not_mem_nil,or_false,Bool.or_false,V.int.injEq,beq_iff_eq]
 lia
inductive Tn(t:Bz)(vs:List V)(H:Hp)(Q:VK)(E:XK):Prop | mk:∀p dx l d ts as i x,vs=[.ref p]->Hg t H p dx l d ts as i x->BQ t E Q H p dx l d ts isInt (takeAlign (ts.drop i))->Tn t vs H Q E
theorem SD:FT P w AJ T 6 t.FF t.FG ["self"] (Tn t):=by
 refine T.Ju.Xg R8 ?_;rintro _ A _ s H _ Q E hr ⟨p,dx,l,d,ts,as,i,x,rfl,st,q⟩;refine⟨_,(AD (Ay (AU FV (Ad (pv 0) T.AL T.Ae (Ab T) hr.lt (Af T) .nil AK) Ah (AY _)) (AH (AO Aj)) AX)
   (AD (Au (Ac (pv 0) T.AL T.Aq (Am T) hr.lt (Ar T) .nil (Ag λ_ _ z=>z) (AB Ah AE)))
   (AD (Ay (PW.pt (JK (AU B3 (Ad (pv 0) T.AL T.Ae (Ab T) hr.lt (Af T) .nil AK) Ah (AY _)) (Fo (AU Oh (CM Ew rfl T.bX boot_int (AB (AQ (BY Av (AQ (pv 0) rfl) (AQ (pv 0) rfl) (λ_ _=>rfl)) rfl) AE)) (fW T.eS) (by with_unfolding_all rfl))))) (AH (Au (Ac (pv 0) T.AL T.B9 (Bv T) hr.lt (CA T) .nil (Ag λ_ _ z=>z) (AB (A9 T.Jg) AE)))) AX)
   (AH (AO (CM Ew rfl T.bX boot_int (AB (Ac (pv 0) T.AL T.Aq (Am T) hr.lt (Ar T) .nil (Ag λ_ _ z=>z) (AB Ah AE)) AE))))))),?_⟩
 walk_at "rd";unfold takeAlign at q;refine Er st ⟨rfl,Az (λh1=> ?_) λh1=> ?_⟩
 ·rw[if_pos (Bool.eq_false_iff.mpr λz=>h1 (congrArg V.str ((Ba jF st).mp z)))] at q;exact q.done st (Kp.refl _ _) rfl rfl
 ·have h1:=V.str.inj (Classical.not_not.mp h1);rw[if_neg (λz=>absurd ((Ba jF st).mpr h1) (by rw[z];decide)),Yb] at q;refine Ik st jF.ne h1 λH' y k1 s1=> ?_;have q:=BQ.kp q k1;have ey:=s1.Ce;rw[Fq ey] at q;refine Er s1 ⟨rfl,Az (λh2=> ?_) λh2=> ?_⟩
  ·obtain⟨n,en⟩:=gT.mp (V.str.inj h2);obtain⟨y',a,ey',ea,ai,dt,eh⟩:=s1.fR;rw[ey] at ey';cases ey';obtain⟨n1,n2⟩:=gS (s1.ok.num _ y n ey en);have ew:NX y.tok=fQ n:=by rw[en];rfl
   rw[ew] at eh;have q2:BQ t E Q H' p dx l d ts isInt (if Valaya.ALIGNS.contains n=true then .ok (n,ts.drop (i+1+1)) else .error ⟨7,y.place⟩):=by obtain⟨yp,yk⟩:=y;cases en;exact q
   have st:=s1.toiS;refine⟨_,⟨_,_,_,st.at_,T.AL,T.Bb,rfl⟩,_,⟨_,_,_,st.at_,T.AL,T.BH,rfl⟩,l,rfl,_,rfl,_,⟨_,A4.of st.tok.lst,ai⟩,a,rfl,_,⟨_,_,_,eh,T.Eo,T.CS,rfl⟩,_,rfl,_,n1,n2,_,.inr (T.eT.sq H'),rfl,rfl,?_⟩;rw[ze];refine Az (λh3=> ?_) λh3=> ?_
   ·rw[if_neg (by rw[h3];decide)] at q2;exact Um (c:=7) s1 q2
   ·have h3:Valaya.ALIGNS.contains n=true:=by cases z:Valaya.ALIGNS.contains n with
     |true=>rfl
     |false=>exact absurd z h3
    rw[if_pos h3] at q2;refine Ik s1 w3.symm (V.str.inj h2) λH2 y2 k2 s2=> ?_;rw[ew];exact⟨_,rfl,_,n1,n2,BQ.done (BQ.kp q2 k2) s2 (Kp.refl _ _) rfl rfl⟩
  ·have h2:¬kindOf y.tok=Str.ofString "number":=λz=>h2 (congrArg V.str z);have q2:Gi t.BC E (Kp p H') 3 y.place:=by
    obtain⟨yp,yk⟩:=y;cases yk with
    |num n=>exact absurd rfl h2
    |name b=>exact q
    |sign c=>exact q
    |last=>exact q
   exact IZ s1 w3.symm (λz=>absurd z h2) λ_=>q2
end
inductive Md where
 |sh (a:Addr)
 |alt (ns:List Str) (bs:List Addr)
 |fld (fs:List Addr)
 |rc (a:Addr) (x:Str)
def zU:HO->Prop
 | .lst _=>True
 | .tup _=>True
 | .ins _ _ fs=>fs.map (·.1)≠ie
 |_=>False
theorem rG{fs:List (Str×V)}(n:List Str)(h:fs.map (·.1)=n)(hn:n≠ie):zU (.ins C dx fs):=λz=>hn (h.symm.trans z)
def Ub:List Str:=["width","align","guards"]
def KL:List Str:=["first","last","align"]
def KN:List Str:=["inner"]
def KP:List Str:=["times","inner"]
def KQ:List Str:=["names","inners"]
def KR:List Str:=["record"]
def fS:List Str:=["name","shape","hot"]
def dE:List Str:=["name","fields","leaves","rivals"]
def KO(H H':Hp):Prop:=∀b o,zU o->H b=some o->H' b=some o
theorem KO.trans(a:KO H H1)(b:KO H1 H2):KO H H2:=λc o k e=>b c o k (a c o k e)
theorem KO.of(a:AR H H1):KO H H1:=λc o _ e=>a c o e
theorem KO.kp{fs:List (Str×V)}(k:Kp p H H1)(hp:H p=some (.ins C dx fs))(hn:fs.map (·.1)=ie):KO H H1:=λc o ok e=>k c o (λz=>by subst z;rw[hp] at e;cases e;exact ok hn) e
theorem KO.uu{kvs:List (Key×V)}{o:HO}(hd:H d=some (.dK kvs)):KO H (upd H d o):=λc q ok e=>by rw[AM (λz=>by subst z;rw[hd] at e;cases e;exact ok)];exact e
inductive QK(t:Bz)(H:Hp)(a:Addr)(f:Valaya.Leaf):Prop | mk:∀(dx g:Addr) (gs:List Addr),H a=some (.ins t.Kn dx (fY [.int (width f:Nat),.int (f.align:Nat),.ref g]))->H g=some (.lst (gs.map V.ref))->gs.length=f.guards.length->(∀(i:Nat) (b:Addr) (x:Nat×Nat),gs[i]?=some b->f.guards[i]?=some x->H b=some (.tup [.int (x.1:Nat),.int (x.2:Nat)]))->QK t H a f
def Fb(t:Bz)(H:Hp)(as:List Addr)(ls:List Valaya.Leaf):Prop:=as.length=ls.length/\∀(i:Nat) (a:Addr) (f:Valaya.Leaf),as[i]?=some a->ls[i]?=some f->QK t H a f
abbrev Bj:=Mt.Bj
def Il(H:Hp)(rs:List Addr)(ls:List Valaya.Leaf):Prop:=rs.length=ls.length/\∀(i:Nat) (a:Addr),rs[i]?=some a->H a=some (.lst ((Bj ls i).map λj=>V.int (j:Nat)))
def oC(x:Str)(lf ll lr:Addr):List (Str×V):=[("name",.str x),("fields",.ref lf),("leaves",.ref ll),("rivals",.ref lr)]
def Rep(t:Bz)(H:Hp):Valaya.Ty->Md->Prop
 | .num lo hi al,m=>match m with
  | .sh a=>∃dx,H a=some (.ins t.A6 dx (Ve [.int lo,.int hi,.int (al:Nat)]))
  |_=>False
 | .maybe ty,m=>match m with
  | .sh a=>∃dx b,H a=some (.ins t.BO dx (XX [.ref b]))/\Rep t H ty (.sh b)
  |_=>False
 | .many n ty,m=>match m with
  | .sh a=>∃dx b,H a=some (.ins t.BS dx (ZX [.int (n:Nat),.ref b]))/\Rep t H ty (.sh b)
  |_=>False
 | .one_ fs,m=>match m with
  | .sh a=>∃dx l1 l2 ns bs,H a=some (.ins t.BV dx (WY [.ref l1,.ref l2]))/\H l1=some (.lst (ns.map V.str))/\H l2=some (.lst (bs.map V.ref))/\Rep t H fs (.alt ns bs)
  |_=>False
 | .named x ty,m=>match m with
  | .sh a=>∃dx r,H a=some (.ins t.BP dx (XY [.ref r]))/\Rep t H ty (.rc r (strOf x))
  |_=>False
 | .rec_ fs,m=>match m with
  | .rc r x=>∃dx lf ll lr as ls rs,H r=some (.ins t.BD dx (oC x lf ll lr))/\H lf=some (.lst (as.map V.ref))/\H ll=some (.lst (ls.map V.ref))/\H lr=some (.lst (rs.map V.ref))/\
   Fb t H ls (leavesOf (.rec_ fs))/\Il H rs (leavesOf (.rec_ fs))/\Rep t H fs (.fld as)
  |_=>False
 | .nil,m=>match m with
  | .alt ns bs=>ns=[]/\bs=[]
  | .fld as=>as=[]
  |_=>False
 | .field x h ty r,m=>match m with
  | .alt ns bs=>∃b ns' bs',ns=strOf x.name::ns'/\bs=b::bs'/\Rep t H ty (.sh b)/\Rep t H r (.alt ns' bs')
  | .fld as=>∃a as' dx b,as=a::as'/\H a=some (.ins t.IW dx (jE [.str (strOf x.name),.ref b,.int (h:Nat)]))/\Rep t H ty (.sh b)/\Rep t H r (.fld as')
  |_=>False
section
theorem Fb.mono{ls:List Valaya.Leaf}(k:KO H H')(h:Fb t H as ls):Fb t H' as ls:=
 ⟨h.1,λi a f ha hf=>let ⟨dx,g,gs,h1,h2,h3,h4⟩:=h.2 i a f ha hf
  ⟨dx,g,gs,k _ _ (rG Ub rfl (by decide+kernel)) h1,k _ _ trivial h2,h3,λi b x hb hx=>k _ _ trivial (h4 i b x hb hx)⟩⟩
theorem Il.mono{ls:List Valaya.Leaf}(k:KO H H')(h:Il H as ls):Il H' as ls:=⟨h.1,λi a ha=>k _ _ trivial (h.2 i a ha)⟩
theorem Rep.mono(k:KO H H'):∀{ty:Valaya.Ty} {m:Md},Rep t H ty m->Rep t H' ty m:=by
 intro ty;induction ty with
 |num lo hi al=>intro m h;cases m<;>simp only[Rep] at h ⊢;obtain⟨dx,h⟩:=h;exact⟨dx,k _ _ (rG KL rfl (by decide+kernel)) h⟩
 |maybe ty ih=>intro m h;cases m<;>simp only[Rep] at h ⊢;obtain⟨dx,b,h,r⟩:=h;exact⟨dx,b,k _ _ (rG KN rfl (by decide+kernel)) h,ih r⟩
 |many n ty ih=>intro m h;cases m<;>simp only[Rep] at h ⊢;obtain⟨dx,b,h,r⟩:=h;exact⟨dx,b,k _ _ (rG KP rfl (by decide+kernel)) h,ih r⟩
 |one_ fs ih=>intro m h;cases m<;>simp only[Rep] at h ⊢;obtain⟨dx,l1,l2,ns,bs,h,h1,h2,r⟩:=h;exact⟨dx,l1,l2,ns,bs,k _ _ (rG KQ rfl (by decide+kernel)) h,k _ _ trivial h1,k _ _ trivial h2,ih r⟩
 |named x ty ih=>intro m h;cases m<;>simp only[Rep] at h ⊢;obtain⟨dx,b,h,r⟩:=h;exact⟨dx,b,k _ _ (rG KR rfl (by decide+kernel)) h,ih r⟩
 |rec_ fs ih=>intro m h;cases m<;>simp only[Rep] at h ⊢;obtain⟨dx,lf,ll,lr,as,ls,rs,h,h1,h2,h3,h4,h5,r⟩:=h;exact⟨dx,lf,ll,lr,as,ls,rs,k _ _ (rG dE rfl (by decide+kernel)) h,k _ _ trivial h1,k _ _ trivial h2,k _ _ trivial h3,h4.mono k,h5.mono k,ih r⟩
 |nil=>intro m h;cases m<;>simp only[Rep] at h ⊢<;>exact h
 |field x hh ty r ih1 ih2=>
  intro m h;cases m<;>simp only[Rep] at h ⊢
  ·obtain⟨b,ns',bs',h1,h2,h3,h4⟩:=h;exact⟨b,ns',bs',h1,h2,ih1 h3,ih2 h4⟩
  ·obtain⟨a,as',dx,b,h1,h2,h3,h4⟩:=h;exact⟨a,as',dx,b,h1,k _ _ (rG fS rfl (by decide+kernel)) h2,ih1 h3,ih2 h4⟩
theorem Rep.kp{p C dx:Addr}{fs:List (Str×V)}{ty:Valaya.Ty}{m:Md}(h:Rep t H ty m)(k:Kp p H H')(hp:H p=some (.ins C dx fs))(hn:fs.map (·.1)=ie):Rep t H' ty m:=h.mono (KO.kp k hp hn)
end
section
theorem Hg.ko(st:Hg t H p dx l d ts as i x)(k:Kp p H H'):KO H H':=KO.kp k st.at_ rfl
inductive YU(t:Bz)(H:Hp)(v:V)(ty:Valaya.Ty):Prop | mk:∀a,v= .ref a->Rep t H ty (.sh a)->YU t H v ty
theorem lZ{β:Type}{R0:Hp->V->β->Prop}{f:Int×Nat×Toks->Except Fault (β×Toks)}(st:Hg t H p dx l d ts as i x)(q:BQ t E Q H p dx l d ts R0 ((takeInt (ts.drop i)).bind f))
  (k:∀n pl H' j y z,Kp p H H'->Hg t H' p dx l d ts as (j+1) y->ts[j]?=some z->z.place=pl->BQ t E Q H' p dx l d ts R0 (f (n,pl,ts.drop (j+1)))->Q' (.int n) H'):
  Ij t.Al H p (Str.ofString "read_value")/\NS t [V.ref p] H Q' E:=by
 refine⟨⟨_,_,st.at_,rfl⟩,p,dx,l,d,ts,as,i,x,rfl,st,?_⟩;cases er:takeInt (ts.drop i) with
 |error f=>rw[er] at q;exact q
 |ok r=>
  rw[er] at q;intro H' j k1 k2 k3 k4 ⟨z,hz,ez⟩;obtain⟨y,s1,_⟩:=st.next k1 k2 k3
  refine k r.1 r.2.1 H' j y z k1 s1 hz ez ?_;rw[k4];exact BQ.kp q k1
theorem iS.yI{z:PTok}(h:iS t H p dx l d ts as i)(ez:ts[j]?=some z):∃a,iR (as.map V.ref) (j:Int)=some (.ref a)/\Nb t.Co H a (kindOf z.tok) (NX z.tok) z.place:=by obtain⟨hl,_⟩:=List.getElem?_eq_some_iff.mp ez;obtain⟨a,ea⟩:∃a,as[j]?=some a:=⟨_,getElem?_eq_getElem (by rw[h.tok.len];exact hl)⟩;exact⟨a,Fp (by rw[getElem?_map,ea];rfl),h.tok.at_ j a z ea ez⟩
theorem Yq{F:List V->List (Str×V)}{args:List V}(hl:args.length=n)(h:∀x dx H2,H x=none->AR H H2->H2 x=some (.ins C dx (F args))->Q (.ref x) H2):
  ∀x dx:Addr,H x=none->H dx=none->dx≠x->Ko C n F (V.ref x::args) (upd (upd H dx (HO.own x)) x (HO.ins C dx [])) (λv H2=>v=V.Fn/\Q (V.ref x) H2) (λ_ _ _=>False):=λx dx nx nd ne=>
 ⟨x,dx,args,rfl,hl,AG,rfl,by rw[BR];exact h x dx _ nx (AR.new nx nd) AG⟩
theorem BQ.new{α:Type}{R:Hp->V->α->Prop}{a:α}{v:V}(q:BQ t E Q H p dx l d ts R (.ok (a,ts.drop j)))(st:Hg t H p dx l d ts as j y)(k:AR H H')(r:R H' v a):Q v H':=
 q.done st (Kp.of k) (by rw[st.at_];exact k _ _ st.at_) r
def uS(l:Toks):Except Fault (Valaya.Ty×Toks):=(takeInt (l.drop 1)).bind λa=>(takeWord "to" a.2.2).bind λl=>(takeInt l).bind λb=>if b.1<a.1 then .error ⟨7,b.2.1⟩ else(takeAlign b.2.2).map λc=>(.num a.1 b.1 c.1,c.2)
inductive JJ(t:Bz)(vs:List V)(H:Hp)(Q:VK)(E:XK):Prop | mk:∀p dx l d ts as i x,vs=[.ref p]->Hg t H p dx l d ts as i x->kindOf x.tok=Str.ofString "from"->BQ t E Q H p dx l d ts (YU t) (uS (ts.drop i))->JJ t vs H Q E
theorem EK:FT P w AJ T 7 t.Cm t.Cn ["self"] (JJ t):=by
 refine T.Ej.Xg EJ ?_;rintro _ A _ s H _ Q E hr ⟨p,dx,l,d,ts,as,i,x,rfl,st,h1,q⟩;have nd:=EJ.nd;refine⟨_,(AD (Au (Ac (pv 0) T.AL T.Aq (Am T) hr.lt (Ar T) .nil (Ag λ_ _ z=>z) (AB Ah AE)))
   (AD (ps_sl 1 nd (Ad (pv 0) T.AL T.Jr (JI T) hr.lt (Jw T) .nil (Ag λ_ _ z=>z)))
   (AD (Au (Ac (pv 0) T.AL T.Aq (Am T) hr.lt (Ar T) .nil (Ag λ_ _ z=>z) (AB Ah AE)))
   (AD (ps_sl 2 nd (Ad (pv 0) T.AL T.Jr (JI T) hr.lt (Jw T) .nil (Ag λ_ _ z=>z)))
   (AD (Ay (AU GR (pv 2) (pv 1) (AY _)) (AH (Gn T.FK T.FN T.KC (CB T) hr.lt (Cc T) rfl T.IX (AB (A9 T.Jg) (AB (AQ (BY Av (AQ (pv 0) rfl) (An D5 (AQ (pv 0) rfl) Aj) (λ_ _=>rfl)) rfl) AE)))) AX)
   (AH (AO (CL T.aU (Se T) hr.lt rfl T.aT (UO T) .nil AK (AB (pv 1) (AB (pv 2) (AB (Ad (pv 0) T.AL T.SW (SD T) hr.lt (SY T) .nil (Ag λ_ _ z=>z)) AE))))))))))),?_⟩
 walk_at "rd";unfold uS at q;rw[Yb] at q;refine Ik st Y5.ne h1 λH1 y1 k1 s1=> ?_;refine lZ s1 (BQ.kp q k1) λlo pl H2 j2 y2 z2 k2 s2 _ _ q=> ?_;refine qp s2 pT.ne (λz=>SR pT) q λH3 y3 k3 s3 q=> ?_;refine lZ s3 q λhi pl H4 j4 y4 z4 k4 s4 ez hz q=> ?_;dsimp only at q;refine⟨_,rfl,_,rfl,Az (λh2=> ?_) λh2=> ?_⟩
 ·rw[if_pos h2] at q;obtain⟨a,ai,dt,eh⟩:=s4.yI ez;rw[<-hz] at q;exact⟨_,⟨_,_,_,s4.at_,T.AL,T.Bb,rfl⟩,_,⟨_,_,_,s4.at_,T.AL,T.BH,rfl⟩,_,rfl,l,rfl,_,⟨_,A4.of s4.tok.lst,(by rw[show (((j4+1:Nat):Int) - 1)=(j4:Int) by lia];exact ai)⟩,a,rfl,_,⟨_,_,_,eh,T.Eo,T.Ig,rfl⟩,
   λdx H1 _ e1 e2=>Gi.of q dx H1 e2 e1⟩
 ·rw[if_neg h2] at q;refine⟨⟨_,_,s4.at_,rfl⟩,p,dx,l,d,ts,as,_,y4,rfl,s4,BQ.map s4 q λv H5 j5 y5 a k5 s5 e q=> ?_⟩;subst e;exact Yq rfl λxx dy H6 _ s6 e6=>q.new s5 s6 ⟨xx,rfl,dy,e6⟩
end
end Pr
namespace Pr
open PySem PySem.Spec PyProof.Rows L2
open ValayBase (PTok Toks PName Bytes)
open Valaya (Ty Rec)
section
variable{β:Type}
theorem Aw{α:Type}{r:Except Fault α}{f:α->Except Fault β}{b:β}(h:r.bind f= .ok b):∃a,r= .ok a/\f a= .ok b:=by
 cases r with
 |error e=>cases h
 |ok a=>exact⟨a,rfl,h⟩
theorem Mf{α:Type}{r:Except Fault α}{f:α->β}{b:β}(h:r.map f= .ok b):∃a,r= .ok a/\f a=b:=by
 cases r with
 |error e=>cases h
 |ok a=>cases h;exact⟨a,rfl,rfl⟩
theorem Et{k:ValayBase.Tok}{l r:Toks}(h:taken k l= .ok r):r.length<l.length:=by
 unfold taken at h;split at h
 ·cases h;rename_i z;cases l with
  |nil=>cases z
  |cons a l=>simp
 ·cases h
theorem U0{l r:Toks}{x:PName}(h:takeName l= .ok (x,r)):r.length<l.length:=by
 unfold takeName at h;split at h
 ·split at h
  ·cases h
  ·cases h;simp
 ·cases h
theorem lh{l r:Toks}{n:Int}{p:Nat}(h:takeInt l= .ok (n,p,r)):r.length<=l.length:=by
 unfold takeInt at h;dsimp only at h;split at h
 ·rename_i e;split at h
  ·cases h
  ·cases h;split at e
   ·have:=congrArg List.length e;rw[length_drop,length_cons] at this;lia
   ·rw[e,length_cons];lia
 ·cases h
theorem cn{a b:Nat}{l r:Toks}(h:takeCount a b l= .ok (n,r)):r.length<l.length:=by
 unfold takeCount at h;split at h
 ·split at h
  ·cases h
  ·cases h;simp
 ·cases h
theorem nX{l r:Toks}(h:takeAlign l= .ok (n,r)):r.length<=l.length:=by
 unfold takeAlign at h;split at h
 ·cases h;exact Nat.le_refl _
 ·split at h
  ·rename_i e;split at h
   ·cases h;have:=congrArg List.length e;rw[length_drop,length_cons] at this;lia
   ·cases h
  ·cases h
def Nc(part:Toks->Except Fault (Ty×Toks))(zs:List (PName×Nat×Ty))(l:Toks):Except Fault ((PName×Ty)×Toks):=(takeName l).bind λx=>if zs.any (λa=>a.1.name==x.1.name)=true then .error ⟨5,x.1.place⟩ else(takeSign 58 x.2).bind λm=>(part m).bind λt=> .ok ((x.1,t.1),t.2)
def QL(part:Toks->Except Fault (Ty×Toks))(n:Nat)(bs:List (PName×Nat×Ty))(l:Toks):Except Fault (Ty×Toks):=
 if ValayBase.next (.sign 44) l=true then takeAlts part n bs (l.drop 1) else if bs.length<2 then wrong l else(takeSign 125 l).map λm=>(.one_ (Valaya.rowOf bs),m)
theorem eC{part:Toks->Except Fault (Ty×Toks)}{l:Toks}:takeAlts part (n+1) zs l=if ALTS<=zs.length then .error ⟨4,here l⟩ else
  (Nc part zs l).bind λz=>QL part n (zs++ [(z.1.1,1,z.1.2)]) z.2:=by
 show (if ALTS<=zs.length then _ else _)=_;split
 ·rfl
 ·unfold Nc;cases takeName l with
  |error e=>rfl
  |ok x=>
   show (if _ then _ else _)=Except.bind (if _ then _ else _) _;split
   ·rfl
   ·cases takeSign 58 x.2 with
    |error e=>rfl
    |ok m=>
     show (part m).bind _=((part m).bind _).bind _;cases part m with
     |error e=>rfl
     |ok t=>rfl
theorem lj{part:Toks->Except Fault (Ty×Toks)}(hp:∀l t r,part l= .ok (t,r)->r.length<=l.length){l r:Toks}{z:PName×Ty}(h:Nc part zs l= .ok (z,r)):r.length<=l.length:=by
 unfold Nc at h;obtain⟨x,h1,h2⟩:=Aw h;have l1:=U0 h1;split at h2
 ·cases h2
 obtain⟨m,h3,h4⟩:=Aw h2;obtain⟨t,h5,h6⟩:=Aw h4;have l2:=Et h3;have l3:=hp m t.1 t.2 h5;cases h6;lia
theorem gV{part:Toks->Except Fault (Ty×Toks)}(hp:∀l t r,part l= .ok (t,r)->r.length<=l.length):∀(n:Nat) (zs:List (PName×Nat×Ty)) (l r:Toks) (t:Ty),takeAlts part n zs l= .ok (t,r)->r.length<=l.length
 | 0,_,_,_,_,h=>by cases h
 |n+1,zs,l,r,t,h=>by
  rw[eC] at h;split at h
  ·cases h
  obtain⟨z,h1,h2⟩:=Aw h;have l1:=lj hp h1;unfold QL at h2;split at h2
  ·have:=gV hp n _ _ _ _ h2;rw[length_drop] at this;lia
  ·split at h2
   ·cases h2
   ·obtain⟨m,h3,h4⟩:=Mf h2;have:=Et h3;cases h4;lia
theorem V7(rs:List Rec):∀(n:Nat) (l:Toks) (t:Ty) (r:Toks),takeTy rs n l= .ok (t,r)->r.length<=l.length
 | 0,_,_,_,h=>by cases h
 |n+1,l,t,r,h=>by
  unfold takeTy at h;have d1:(l.drop 1).length<=l.length:=by rw[length_drop];lia
  split at h
  ·obtain⟨a,h1,h⟩:=Aw h;obtain⟨m,h2,h⟩:=Aw h;obtain⟨b,h3,h⟩:=Aw h;split at h
   ·cases h
   obtain⟨c,h4,h⟩:=Mf h;have l1:=lh (p:=a.2.1) (r:=a.2.2) h1;have l2:=Et h2;have l3:=lh (p:=b.2.1) (r:=b.2.2) h3;have l4:=nX (r:=c.2) h4;cases h;lia
  ·split at h
   ·obtain⟨a,h1,h⟩:=Mf h;have l1:=V7 rs n _ _ a.2 h1;cases h;lia
   ·split at h
    ·obtain⟨k,h1,h⟩:=Aw h;obtain⟨a,h2,h⟩:=Mf h;have l1:=cn (r:=k.2) h1;have l2:=V7 rs n _ _ a.2 h2;cases h;lia
    ·split at h
     ·obtain⟨m,h1,h⟩:=Aw h;have l1:=Et h1;have l2:=gV (V7 rs n) _ _ _ _ _ h
      lia
     ·obtain⟨a,h1,h⟩:=Aw h;have l1:=U0 (r:=a.2) h1;split at h
      ·cases h
      ·cases h;lia
end
section
inductive Bl(t:Bz)(H:Hp)(d:Addr)(rs:List Rec):Prop | mk:∀zs:List (Rec×Addr),zs.map (·.1)=rs->H d=some (.dK (zs.map λz=>((Sum.inr (strOf z.1.x.name):Key),V.ref z.2)))->(∀z∈zs,Rep t H z.1.t (.rc z.2 (strOf z.1.x.name)))->Bl t H d rs
theorem Bl.mono{d:Addr}{rs:List Rec}(h:Bl t H d rs)(k:KO H H')(kd:∀kvs,H d=some (.dK kvs)->H' d=some (.dK kvs)):Bl t H' d rs:=
 let ⟨zs,e,hd,hz⟩:=h;⟨zs,e,kd _ hd,λz m=>(hz z m).mono k⟩
theorem vp{d:Addr}(zs:List (Rec×Addr))(b:Bytes):EL (zs.map λz=>((Sum.inr (strOf z.1.x.name):Key),V.ref z.2)) (Sum.inr (strOf b))=((zs.find? λz=>z.1.x.name==b).map λz=>V.ref z.2)/\
  (zs.map (·.1)).find? (λr=>r.x.name==b)=(zs.find? λz=>z.1.x.name==b).map (·.1):=by
 induction zs with
 |nil=>exact⟨rfl,rfl⟩
 |cons z zs ih=>
  simp only[map_cons,find?_cons];by_cases e:z.1.x.name=b
  ·rw[show (z.1.x.name==b)=true by simp[e]];refine⟨?_,rfl⟩;exact Ds (by rw[e])
  ·rw[show (z.1.x.name==b)=false by simp[e]];refine⟨?_,ih.2⟩;rw[Dt (λq=>e (Nu (Sum.inr.inj q)))];exact ih.1
end
section
theorem Bl.kp(st:Hg t H p dx l d ts as i x)(h:Bl t H d rs)(k:Kp p H H'):Bl t H' d rs:=
 h.mono (st.ko k) λkvs e=>k _ _ (λz=>by rw[z,st.at_] at e;cases e) e
def uT(rs:List Rec)(l:Toks):Except Fault (Ty×Toks):=(takeName l).bind λx=>match rs.find? λr=>r.x.name==x.1.name with
   |none=> .error ⟨6,x.1.place⟩
   |some r=> .ok (.named r.x.name r.t,x.2)
inductive KD(t:Bz)(vs:List V)(H:Hp)(Q:VK)(E:XK):Prop | mk:∀p dx l d ts as i x rs,vs=[.ref p]->Hg t H p dx l d ts as i x->Bl t H d rs->BQ t E Q H p dx l d ts (YU t) (uT rs (ts.drop i))->KD t vs H Q E
theorem Em:FT P w AJ T 7 t.Cp t.Cq ["self"] (KD t):=by
 refine T.E4.Xg Lm ?_;rintro _ A _ s H _ Q E hr ⟨p,dx,l,d,ts,as,i,x,rs,rfl,s0,hR,q⟩;refine⟨_,(AD (Ay (PW.pt (JK (AU B3 (Ad (pv 0) T.AL T.Ae (Ab T) hr.lt (Af T) .nil AK) Ah (AY _)) (Fo (ow (mh (YZ hr) (AQ (BY Av (AQ (pv 0) rfl) (AQ (pv 0) rfl) (λ_ _=>rfl)) rfl) (AQ (pv 0) rfl)))))) (AH (Au (Ac (pv 0) T.AL T.B9 (Bv T) hr.lt (CA T) .nil (Ag λ_ _ z=>z) (AB (A9 T.jm) AE)))) AX)
   (AH (AO (CL T.eM (UT T) hr.lt rfl T.eL (Vv T) .nil AK (AB (r8 (YZ hr) (AQ (pv 0) rfl) (Ac (pv 0) T.AL T.Aq (Am T) hr.lt (Ar T) .nil (Ag λ_ _ z=>z) (AB Ah AE)) (λ_ _=>rfl)) AE))))),?_⟩
 walk_at "rd";unfold uT at q;obtain⟨zs,ez,hd,hz⟩:=hR;refine Er s0 ⟨rfl,Az (λh1=> ?_) λh1=> ?_⟩
 ·obtain⟨b,eb,nr⟩:=Wa.mp (V.str.inj h1);rw[(ER s0.Ce).1 b eb nr] at q;have q:BQ t E Q H p dx l d ts (YU t) (match rs.find? λr=>r.x.name==b with
   |none=> .error ⟨6,x.place⟩
   |some r=> .ok (.named r.x.name r.t,ts.drop (i+1))):=q
  obtain⟨f1,f2⟩:=vp (d:=d) zs b;rw[<-ez,f2] at q;have ew:NX x.tok=strOf b:=by rw[eb];rfl
  obtain⟨x',a,ex',ea,ai,dt,eh⟩:=s0.fR;rw[s0.Ce] at ex';cases ex';rw[ew] at eh;have st:=s0.toiS;refine⟨_,⟨_,_,_,st.at_,T.AL,T.Bb,rfl⟩,_,⟨_,_,_,st.at_,T.AL,T.BH,rfl⟩,l,rfl,_,rfl,_,⟨_,A4.of st.tok.lst,ai⟩,a,rfl,_,⟨_,_,_,eh,T.Eo,T.CS,rfl⟩,_,⟨_,_,_,st.at_,T.AL,T.Bg,rfl⟩,d,rfl,_,SV.k (k:=Sum.inr (strOf b)) hd,?_⟩;rw[f1];cases ef:zs.find? λz=>z.1.x.name==b with
  |none=>rw[ef] at q;exact Um (c:=6) s0 q
  |some z=>
   rw[ef] at q;have q:BQ t E Q H p dx l d ts (YU t) (.ok (.named z.1.x.name z.1.t,ts.drop (i+1))):=q;refine⟨_,⟨_,_,_,st.at_,T.AL,T.Bg,rfl⟩,Ik s0 w2.symm (V.str.inj h1) λH1 y1 k1 s1=> ?_⟩;rw[ew];have hd1:=k1 _ _ (λe=>by rw[e,s0.at_] at hd;cases hd) hd;have g:SV H1 d (V.str (strOf b)) (some (.ref z.2)):=by have:=SV.k (k:=Sum.inr (strOf b)) hd1;rw[f1,ef] at this;exact this
   exact⟨d,rfl,_,g,Yq rfl λxx dy H2 _ s2 e2=>(BQ.kp q k1).new s1 s2 ⟨xx,rfl,dy,z.2,e2,((hz z (mem_of_find?_eq_some ef)).mono (s0.ko k1)).mono (KO.of s2)⟩⟩
 ·have h1:¬kindOf x.tok=Str.ofString "name":=λz=>h1 (congrArg V.str z);rw[(ER s0.Ce).2 h1] at q;have st:=s0.toiS;refine⟨_,⟨_,_,_,st.at_,T.AL,T.Bg,rfl⟩,IZ s0 w2.symm (λz=>absurd z h1) λ_=>q⟩
end
section
theorem Oe{nd:Addr}{ns:List Str}(st:Hg t H p dx l d ts as i x)(hn:wb H nd ns)
  (good:∀b,x.tok= .name b->ValayBase.RESERVED.contains b=false->¬strOf b∈ns->∀H' y,Kp p H H'->Hg t H' p dx l d ts as (i+1) y->Q (.str (strOf b)) H')
  (dup:∀b,x.tok= .name b->ValayBase.RESERVED.contains b=false->strOf b∈ns->Gi t.BC E (Kp p H) 5 x.place) (bad:kindOf x.tok≠Str.ofString "name"->Gi t.BC E (Kp p H) 3 x.place):
  Ij t.Al H p (Str.ofString "take_new_name")/\IU t [V.ref p,V.ref nd] H Q E:=by
 refine⟨⟨_,_,st.at_,rfl⟩,p,dx,l,d,ts,as,i,x,nd,ns,rfl,st.toiS,st.Ce,hn,Az (λh=> ?_) λh=>(bad h).of⟩;obtain⟨b,eb,nr⟩:=Wa.mp h;have ew:NX x.tok=strOf b:=by rw[eb];rfl
 have il:=st.ok.last i x st.Ce (by rw[eb];intro z;cases z);obtain⟨y,s1,_⟩:=st.next (H':=upd H p (.ins t.Al dx (pF l (i+1) d))) Kp.upd AG il
 rw[ew];exact Az (λh2=>(dup b eb nr h2).of) λh2=>good b eb nr h2 _ y Kp.upd s1
def ny(p D:Addr)(H H':Hp):Prop:=∀b o,b≠p->b≠D->H b=some o->H' b=some o
def Cs(zs:List ((PName×Nat×Ty)×Addr)):List (Key×V):=zs.map λz=>((Sum.inr (strOf z.1.1.name):Key),V.ref z.2)
inductive Kj(t:Bz)(H:Hp)(D:Addr)(zs:List (PName×Nat×Ty)):Prop | mk:∀za:List ((PName×Nat×Ty)×Addr),za.map (·.1)=zs->H D=some (.dK (Cs za))->(∀z∈za,Rep t H z.1.2.2 (.sh z.2))->Kj t H D zs
theorem Kj.mono{zs:List (PName×Nat×Ty)}(h:Kj t H D zs)(k:KO H H')(kd:∀kvs,H D=some (.dK kvs)->H' D=some (.dK kvs)):Kj t H' D zs:=
 let ⟨za,e,hd,hz⟩:=h;⟨za,e,kd _ hd,λz m=>(hz z m).mono k⟩
theorem Kj.kp(st:Hg t H p dx l d ts as i x)(h:Kj t H D zs)(k:Kp p H H'):Kj t H' D zs:=
 h.mono (st.ko k) λkvs e=>k _ _ (λz=>by rw[z,st.at_] at e;cases e) e
theorem Kj.nm(h:Kj t H D zs):wb H D (zs.map λz=>strOf z.1.name):=by obtain⟨za,e,hd,_⟩:=h;refine⟨_,hd,?_⟩;rw[<-e];unfold Cs;simp only[map_map];rfl
theorem U1{b:Bytes}:zs.any (λa=>a.1.name==b)=true↔strOf b∈zs.map λz=>strOf z.1.name:=by
 rw[any_eq_true,mem_map];constructor
 ·rintro⟨z,m,e⟩;exact⟨z,m,by rw[beq_iff_eq.mp e]⟩
 ·rintro⟨z,m,e⟩;exact⟨z,m,by rw[Nu e];exact beq_self_eq_true _⟩
def ij(t:Bz)(E:XK)(Q:VK)(H:Hp)(p dx l d D:Addr)(ts:Toks)(zs:List (PName×Nat×Ty))(r:Except Fault ((PName×Ty)×Toks)):Prop:=match r with
 | .error f=>Gi t.BC E (Kp p H) f.code f.place
 | .ok z=>∀H' j,ny p D H H'->H' p=some (.ins t.Al dx (pF l j d))->j<ts.length->ts.drop j=z.2->Kj t H' D (zs++ [(z.1.1,1,z.1.2)])->Q .Fn H'
theorem ij.kp{zs:List (PName×Nat×Ty)}{r:Except Fault ((PName×Ty)×Toks)}(q:ij t E Q H p dx l d D ts zs r)(k:Kp p H H'):ij t E Q H' p dx l d D ts zs r:=by
 cases r with
 |error f=>exact Gi.kp q k
 |ok z=>exact λH1 j k1=>q H1 j λb o b1 b2 e=>k1 b o b1 b2 (k b o b1 e)
inductive C0(t:Bz)(n:Nat)(vs:List V)(H:Hp)(Q:VK)(E:XK):Prop | mk:∀p dx l d ts as i x rs,vs=[.ref p,.int (7 - (n:Int))]->Hg t H p dx l d ts as i x->Bl t H d rs->BQ t E Q H p dx l d ts (YU t) (takeTy rs n (ts.drop i))->C0 t n vs H Q E
inductive DI(t:Bz)(n:Nat)(vs:List V)(H:Hp)(Q:VK)(E:XK):Prop | mk:∀p dx l d ts as i x rs D zs,vs=[.ref p,.ref D,.int (6 - (n:Int))]->Hg t H p dx l d ts as i x->Bl t H d rs->Kj t H D zs->d≠D->zs.length<=4->ij t E Q H p dx l d D ts zs (Nc (takeTy rs n) zs (ts.drop i))->DI t n vs H Q E
theorem Ln(T:Txt K mg t)(IH:FO P w K mg AJ t (8+3 * n) t.BF t.BG ["self","depth"] (C0 t n)):
  FO P w K mg AJ t (8+3 * n+1) t.B1 t.B2 ["self","inners","depth"] (DI t n):=by
 refine T.E3.Xg El ?_;rintro _ A _ s H _ Q E hr ⟨p,dx,l,d,ts,as,i,x,rs,D,zs,rfl,s0,hR,hA,dD,hl,q⟩;have nd:=El.nd;refine⟨_,(AD (ps_sl 3 nd (Ac (pv 0) T.AL T.Dl (DZ T) (hr.mono (by lia)) (Dn T) .nil (Ag λ_ _ z=>z) (AB (pv 1) AE)))
   (AD (Au (Ac (pv 0) T.AL T.Aq (Am T) (hr.mono (by lia)) (Ar T) .nil (Ag λ_ _ z=>z) (AB Ah AE)))
   (AH (df (YZ hr) (pv 1) (pv 3) (Ac (pv 0) T.AL T.Bx IH (hr.mono (by lia)) (By T) .nil (Ag λ_ _ z=>z) (AB (An Ca (pv 2) Aj) AE)) rfl)))),?_⟩
 walk_at "rd";refine Oe s0 hA.nm (λb eb nr hb H1 y1 k1 s1=> ?_) (λb eb nr hb=> ?_) λhk=> ?_
 ·have e:Nc (takeTy rs n) zs (ts.drop i)=(takeSign 58 (ts.drop (i+1))).bind λm=>(takeTy rs n m).bind λt=> .ok ((⟨x.place,b⟩,t.1),t.2):=by
   unfold Nc;rw[(ER s0.Ce).1 b eb nr];exact if_neg (λz=>hb (U1.mp z))
  rw[e] at q;have q:=ij.kp q k1;refine IZ s1 (by decide+kernel) (λh2 H2 y2 k2 s2=> ?_) λh2=> ?_
  ·have e2:takeSign 58 (ts.drop (i+1))= .ok (ts.drop (i+1+1)):=(EO s1.Ce _).1 (BN.mp h2);rw[e2] at q;have q:=ij.kp q k2;have hR2:=Bl.kp s1 (Bl.kp s0 hR k1) k2;have hA2:=Kj.kp s1 (Kj.kp s0 hA k1) k2;refine⟨⟨_,_,s2.at_,rfl⟩,p,dx,l,d,ts,as,_,y2,rs,?_,s2,hR2,?_⟩
   ·rw[show (6 - (n:Int))+1=7 - (n:Int) by lia]
   ·have q:ij t E Q H2 p dx l d D ts zs ((takeTy rs n (ts.drop (i+1+1))).bind λt=> .ok ((⟨x.place,b⟩,t.1),t.2)):=q;cases er:takeTy rs n (ts.drop (i+1+1)) with
    |error f=>rw[er] at q;exact q
    |ok r=>
     rw[er] at q;rintro v H3 j k3 e3 l3 d3 ⟨a,rfl,hr3⟩;obtain⟨za,ez,hD,hz⟩:=Kj.kp s2 hA2 k3;have pD:p≠D:=λz=>by rw[<-z,e3] at hD;cases hD
     have hnew:EL (Cs za) (Sum.inr (strOf b):Key)=none:=by
      cases ev:EL (Cs za) (Sum.inr (strOf b):Key) with
      |none=>rfl
      |some v=>exfalso;have:=X7 ev;unfold Cs at this;rw[map_map] at this;obtain⟨z,m,e⟩:=mem_map.mp this;refine hb (mem_map.mpr ⟨z.1,?_,Sum.inr.inj e⟩);rw[<-ez];exact mem_map.mpr ⟨z,m,rfl⟩
     have hl3:(Cs za).length<sizeLine:=by unfold Cs;rw[length_map,<-length_map (f:=λx=>x.1) (as:=za),ez,sizeLine_eq];lia
     refine⟨_,fN.k (k:=Sum.inr (strOf b)) hD hl3,?_⟩;rw[Yw _ hnew];have ko:=KO.uu (o:= .dK (Cs za++ [(Sum.inr (strOf b),V.ref a)])) hD;refine q _ j (λc o c1 c2 e=>by rw[AM c2];exact k3 c o c1 e) (by rw[AM pD];exact e3) l3 d3 ⟨za++ [((⟨x.place,b⟩,1,r.1),a)],?_,?_,λz m=> ?_⟩
     ·rw[map_append,ez];rfl
     ·rw[AG];unfold Cs;rw[map_append];rfl
     ·rcases mem_append.mp m with m | m
      ·exact(hz z m).mono ko
      ·cases mem_singleton.mp m;exact hr3.mono ko
  ·have e2:takeSign 58 (ts.drop (i+1))= .error ⟨3,y1.place⟩:=(EO s1.Ce _).2 (λz=>h2 (BN.mpr z));rw[e2] at q;exact q
 ·have e:Nc (takeTy rs n) zs (ts.drop i)= .error ⟨5,x.place⟩:=by
   unfold Nc;rw[(ER s0.Ce).1 b eb nr];exact if_pos (U1.mpr hb)
  rw[e] at q;exact q
 ·have e:Nc (takeTy rs n) zs (ts.drop i)= .error ⟨3,x.place⟩:=by
   unfold Nc;rw[(ER s0.Ce).2 hk];rfl
  rw[e] at q;exact q
end
section
def fK(H:Hp)(p:Addr):Nat:=match H p with
 |some (.ins _ _ [_,(_,.int r),_])=>r.toNat
 |_=>0
theorem iS.fK(h:iS t H p dx l d ts as i):fK H p=i:=by unfold Pr.fK;rw[h.at_];rfl
def uU(rs:List Rec)(n:Nat)(l:Toks):Except Fault (Ty×Toks):=(takeSign 123 (l.drop 1)).bind λl=>takeAlts (takeTy rs n) (l.length+1) [] l
inductive HX(t:Bz)(n:Nat)(vs:List V)(H:Hp)(Q:VK)(E:XK):Prop | mk:∀p dx l d ts as i x rs,vs=[.ref p,.int (6 - (n:Int))]->Hg t H p dx l d ts as i x->Bl t H d rs->kindOf x.tok=Str.ofString "one"->BQ t E Q H p dx l d ts (YU t) (uU rs n (ts.drop i))->HX t n vs H Q E
theorem Rep.row:∀{za:List ((PName×Nat×Ty)×Addr)},(∀z∈za,Rep t H z.1.2.2 (.sh z.2))->Rep t H (Valaya.rowOf (za.map (·.1))) (.alt (za.map λz=>strOf z.1.1.name) (za.map (·.2)))
 | [],_=>⟨rfl,rfl⟩
 |z::za,h=>⟨z.2,_,_,rfl,rfl,h z (mem_cons_self),Rep.row λy m=>h y (mem_cons_of_mem _ m)⟩
theorem Nv{β:Type}{R0:Hp->V->β->Prop}{k:Str}{tk:ValayBase.Tok}{f:Toks->Except Fault (β×Toks)}(st:Hg t H p dx l d ts as i x)(k0:Kp p H0 H)(hk:k≠Str.ofString "end")(ht:∀z,kindOf z=k↔z=tk)
  (q:BQ t E Q H0 p dx l d ts R0 ((taken tk (ts.drop i)).bind f)) (good:∀H' y,Kp p H H'->Hg t H' p dx l d ts as (i+1) y->BQ t E Q H0 p dx l d ts R0 (f (ts.drop (i+1)))->Q0 (.str (NX x.tok)) H'):
  Ij t.Al H p (Str.ofString "take")/\OU t [V.ref p,V.str k] H Q0 E:=by
 refine IZ st hk (λh H' y k1 s1=>good H' y k1 s1 ?_) λh=> ?_
 ·rw[(EO st.Ce tk).1 ((ht _).mp h)] at q;exact q
 ·rw[(EO st.Ce tk).2 (λz=>h ((ht _).mpr z))] at q;exact Gi.kp q k0
theorem map_bind{α β:Type}{r:Except Fault α}{f:α->β}:r.map f=r.bind λa=> .ok (f a):=by cases r<;>rfl
theorem gW{part:Toks->Except Fault (Ty×Toks)}{f:Nat}(h:ts[j]?=some y)(n1:y.tok≠ .sign 44)(n2:y.tok≠ .sign 125\/zs.length<2):QL part f zs (ts.drop j)= .error ⟨3,y.place⟩:=by
 unfold QL;rw[if_neg (λz=>n1 ((Ep h _).mp z))];by_cases z:zs.length<2
 ·rw[if_pos z];unfold wrong;rw[SK h]
 ·rw[if_neg z];unfold takeSign;rw[(EO h (.sign 125)).2 (n2.resolve_right z)];rfl
theorem Hg.jG(h:Hg t H p dx l d ts as i x)(k:KO H H')(e:H' p=some (.ins t.Al dx (pF l j d)))(hj:j<ts.length):∃y,Hg t H' p dx l d ts as j y:=
 ⟨_,⟨⟨e,⟨k _ _ trivial h.tok.lst,h.tok.len,λi a x ha hx=>let ⟨dy,q⟩:=h.tok.at_ i a x ha hx;⟨dy,k _ _ (rG ur rfl (by decide+kernel)) q⟩⟩,hj⟩,getElem?_eq_getElem hj,h.ok⟩⟩
theorem KO.ub{kvs:List (Key×V)}(st:Hg t H p dx l d ts as i x)(hD:H D=some (.dK kvs))(k:ny p D H H'):KO H H':=λc o ok e=>k c o (λz=>by subst z;rw[st.at_] at e;cases e;exact ok rfl) (λz=>by subst z;rw[hD] at e;cases e;exact ok) e
theorem pU{f:(PName×Ty)×Toks->Except Fault (Ty×Toks)}(st:Hg t H p dx l d ts as i x)(k0:Kp p H0 H)(hD0:H0 D=none)(hR:Bl t H d rs)(hA:Kj t H D zs)(dD:d≠D)(hl:zs.length<=4)
  (q:BQ t E Q H0 p dx l d ts (YU t) ((Nc (takeTy rs n) zs (ts.drop i)).bind f))
  (k:∀H' j y z,Kp p H0 H'->Hg t H' p dx l d ts as j y->i<=j->Bl t H' d rs->Kj t H' D (zs++ [(z.1,1,z.2)])->BQ t E Q H0 p dx l d ts (YU t) (f (z,ts.drop j))->Q' .Fn H'):
  Ij t.Al H p (Str.ofString "read_alternative")/\DI t n [V.ref p,V.ref D,V.int (6 - (n:Int))] H Q' E:=by
 refine⟨⟨_,_,st.at_,rfl⟩,p,dx,l,d,ts,as,i,x,rs,D,zs,rfl,st,hR,hA,dD,hl,?_⟩;cases er:Nc (takeTy rs n) zs (ts.drop i) with
 |error f=>rw[er] at q;exact Gi.kp q k0
 |ok z=>
  rw[er] at q;intro H' j k1 e1 l1 d1 a1;obtain⟨za,ez,hD,hz⟩:=hA;have ko:=KO.ub st hD k1;obtain⟨y,s1⟩:=st.jG ko e1 l1;have hle:i<=j:=by have:=lj (V7 rs n) (z:=z.1) (r:=z.2) er;rw[<-d1,length_drop,length_drop] at this;have:=st.lt;lia
  refine k H' j y z.1 (λb o b1 e=> ?_) s1 hle (hR.mono ko λkvs e=>k1 _ _ (λz=>by rw[z,st.at_] at e;cases e) dD e) a1 (by rw[d1];exact q);exact k1 b o b1 (λz=>by rw[z,hD0] at e;cases e) (k0 b o b1 e)
theorem NV(T:Txt K mg t)(IH:FO P w K mg AJ t (8+3 * n+1) t.B1 t.B2 ["self","inners","depth"] (DI t n)):
  FO P w K mg AJ t (8+3 * n+2) t.Bq t.Br ["self","depth"] (HX t n):=by
 refine T.DX.Xg DC ?_;rintro _ A _ s H _ Q E hr ⟨p,dx,l,d,ts,as,i,x,rs,rfl,s0,hR,h1,q⟩;have nd:=DC.nd;refine⟨_,(AD (ps_sl 2 nd Yx)
   (AD (Au (Ac (pv 0) T.AL T.Aq (Am T) (hr.mono (by lia)) (Ar T) .nil (Ag λ_ _ z=>z) (AB Ah AE)))
   (AD (Au (Ac (pv 0) T.AL T.Aq (Am T) (hr.mono (by lia)) (Ar T) .nil (Ag λ_ _ z=>z) (AB Ah AE)))
   (AD (Au (Ac (pv 0) T.AL T.E1 IH (hr.mono (by lia)) (E5 T) .nil (Ag λ_ _ z=>z) (AB (pv 2) (AB (pv 1) AE))))
   (AD (FX PassesOwn.leaving (PW.pt (Wv (AU FV (Ad (pv 0) T.AL T.Ae (Ab T) (hr.mono (by lia)) (Af T) .nil AK) Ah (AY _)) (QF (AU GR (AZ Nq rfl T.B7 PySem.boot_len (AB (pv 2) AE)) (A9 T.R1) (AY _))))) (AD (Au (Ac (pv 0) T.AL T.Aq (Am T) (hr.mono (by lia)) (Ar T) .nil (Ag λ_ _ z=>z) (AB Ah AE)))
   (AD (Ay (AU B3 (AZ Nq rfl T.B7 PySem.boot_len (AB (pv 2) AE)) (A9 T.SX) (AY _)) (AH (Au (Ac (pv 0) T.AL T.B9 (Bv T) (hr.mono (by lia)) (CA T) .nil (Ag λ_ _ z=>z) (AB (A9 T.Od) AE)))) AX)
   (AH (Au (Ac (pv 0) T.AL T.E1 IH (hr.mono (by lia)) (E5 T) .nil (Ag λ_ _ z=>z) (AB (pv 2) (AB (pv 1) AE))))))))
   (AD (Au (Ac (pv 0) T.AL T.Aq (Am T) (hr.mono (by lia)) (Ar T) .nil (Ag λ_ _ z=>z) (AB Ah AE)))
   (AH (AO (CL T.jh (Wr T) (hr.mono (by lia)) rfl T.jg (Xy T) .nil AK (AB (CM (jZ rfl) rfl T.Yn PyProof.Rows.boot_list (AB (pv 2) AE)) (AB (Yz rfl rfl T.Yn (pv 2)) AE))))))))))),?_⟩
 walk_at "rd";intro D hD0;unfold uU at q;rw[Yb] at q;have k0:Kp p H (upd H D (.dK [])):=Kp.of (AR.upd hD0);have pD:p≠D:=λz=>by have:=s0.at_;rw[z,hD0] at this;cases this
 obtain⟨y0,s00,ey0⟩:=s0.next k0 (by rw[AM pD];exact s0.at_) s0.lt
 rw[s0.Ce] at ey0;cases ey0;have hR0:=Bl.kp s0 hR k0;have dD:d≠D:=λz=>by obtain⟨_,_,hd,_⟩:=hR;rw[z,hD0] at hd;cases hd
 have hA0:Kj t (upd H D (.dK [])) D []:=⟨[],rfl,AG,λz m=>by cases m⟩;refine Ik s00 eB.ne h1 λH1 y1 k1 s1=> ?_;refine Nv (tk:= .sign 123) s1 (k0.trans k1) (by decide+kernel) (λz=>BN) q λH2 y2 k2 s2 q=> ?_;rw[eC,if_neg (by decide)] at q;refine pU s2 ((k0.trans k1).trans k2) hD0 (Bl.kp s1 (Bl.kp s00 hR0 k1) k2) (Kj.kp s1 (Kj.kp s00 hA0 k1) k2) dD (zero_le _) q λH3 j3 y3 z3 k3 s3 le3 hR3 hA3 q=> ?_;have fl:ts.length<=(ts.drop (i+1+1)).length+j3:=by rw[length_drop];lia
 refine bU (λσ H'=>∃(j:Nat) (y:PTok) (zs:List (PName×Nat×Ty)) (f:Nat),σ=[some (.ref p),some (.int (6 - (n:Int))),some (.ref D)]/\Kp p H H'/\Hg t H' p dx l d ts as j y/\Kj t H' D zs/\2<=zs.length/\kindOf y.tok=Gj [125]/\
   BQ t E Q H p dx l d ts (YU t) (QL (takeTy rs n) f zs (ts.drop j))) (λnx hnx=> ?_) ?_
 ·refine KY (λσ H'=>∃(j:Nat) (y:PTok) (zs:List (PName×Nat×Ty)) (f:Nat),σ=[some (.ref p),some (.int (6 - (n:Int))),some (.ref D)]/\Kp p H H'/\Hg t H' p dx l d ts as j y/\Bl t H' d rs/\Kj t H' D zs/\1<=zs.length/\zs.length<=4/\ts.length<=f+j/\
   BQ t E Q H p dx l d ts (YU t) (QL (takeTy rs n) f zs (ts.drop j))) (λ_ H'=>ts.length - fK H' p) ⟨j3,y3,_,_,rfl,k3,s3,hR3,hA3,by simp,by simp,fl,q⟩ ?_
  rintro σ H' ⟨j,y,zs,f,rfl,kk,st,hR',hA,z1,z4,hf,q⟩;walk_at "rd";obtain⟨za,ez,hD,hz⟩:=id hA;have zl:((Cs za).length:Int)=zs.length:=by unfold Cs;rw[length_map,<-ez,length_map]
  refine Er st ⟨rfl,Az (λh2=> ?_) λh2=> ?_⟩
  ·have h2:y.tok≠ .sign 125:=λz=>h2 (by rw[BN.mpr z];rfl);refine NZ (IZ st (by decide+kernel) (λh3 H4 y4 k4 s4=> ?_) λh3=> ?_)
   ·have h3:y.tok= .sign 44:=BN.mp h3;unfold QL at q;rw[if_pos ((Ep st.Ce _).mpr h3),Yb] at q;cases f with
    |zero=>have:=st.lt;lia
    |succ f=>
     rw[eC] at q;have hD4:=k4 _ _ (Ne.symm pD) hD;refine⟨_,hD4,rfl,Az (λh5=> ?_) λh5=> ?_⟩
     ·rw[if_pos (show ALTS<=zs.length by unfold ALTS;lia),SK s4.Ce] at q;exact Um (c:=4) s4 (Gi.kp q (kk.trans k4))
     ·rw[if_neg (show ¬ALTS<=zs.length by unfold ALTS;lia)] at q;refine pU s4 (kk.trans k4) hD0 (Bl.kp st hR' k4) (Kj.kp st hA k4) dD z4 q λH5 j5 y5 z5 k5 s5 le5 hR5 hA5 q=> ?_;refine⟨⟨rfl,k5,j5,y5,s5,hR5,_,hA5,by simp,by simp;lia,f,by lia,q⟩,?_⟩;show ts.length - fK H5 p<ts.length - fK H' p;rw[s5.toiS.fK,st.toiS.fK];have:=s5.lt;lia
   ·rw[gW st.Ce (λz=>h3 (by rw[BN.mpr z];rfl)) (.inl h2)] at q;exact Gi.kp q kk
  ·have h2:kindOf y.tok=Gj [125]:=V.str.inj (Classical.not_not.mp h2);refine⟨_,hD,Az (λh3=> ?_) λh3=>hnx _ _ ⟨j,y,zs,f,rfl,kk,st,hA,by lia,h2,q⟩⟩;have h4:y.tok≠ .sign 44:=λz=>by rw[BN.mp h2] at z;cases z
   refine NZ (IZ st (by decide+kernel) (λh3=>absurd (BN.mp h3) h4) λ_=> ?_);rw[gW st.Ce h4 (.inr (by lia))] at q;exact Gi.kp q kk
 ·rintro σ H' ⟨j,y,zs,f,rfl,kk,st,hA,z2,hk,q⟩;walk_at "rd";unfold QL at q;rw[if_neg (λz=>absurd (BN.mp hk) (by rw[(Ep st.Ce _).mp z];intro e;cases e)),if_neg (by lia),map_bind] at q;refine Nv (tk:= .sign 125) (f:=λm=> .ok (Ty.one_ (Valaya.rowOf zs),m)) st kk (by decide+kernel) (λz=>BN) q λH5 y5 k5 s5 q=> ?_;obtain⟨za,ez,hD,hz⟩:=Kj.kp st hA k5;refine⟨_,hD,λl1 n1=> ?_⟩;have D1:D≠l1:=λz=>by rw[<-z,hD] at n1;cases n1
  refine⟨_,by rw[AM D1];exact hD,λl2 n2=> ?_⟩;have l12:l1≠l2:=λz=>by rw[<-z,AG] at n2;cases n2
  have sm:=(AR.upd (o:= .lst (List.map (λz=>kV z.fst) (Cs za))) n1).trans (AR.upd (o:= .lst (List.map (λz=>z.snd) (Cs za))) n2);refine Yq rfl λxx dy H6 _ s6 e6=> ?_;refine(BQ.kp q (kk.trans k5)).new s5 (sm.trans s6) ⟨xx,rfl,dy,l1,l2,za.map (λz=>strOf z.1.1.name),za.map (·.2),e6,s6 _ _ ?_,s6 _ _ ?_,?_⟩
  ·rw[AM l12,AG];unfold Cs;simp only[map_map];rfl
  ·rw[AG];unfold Cs;simp only[map_map];rfl
  ·rw[<-ez];exact Rep.row λz m=>(hz z m).mono (KO.of (sm.trans s6))
theorem ZZ:FT P w AJ T 1 t.BF t.BG ["self","depth"] (λ_ _ _ _=>False):=
 T.DF.Xg CI (λ_ _ _ _ _ _ _ _ _ h=>h.elim) λ_ _ _ _ h=>h.elim
theorem qr:FT P w AJ T 1 t.Bq t.Br ["self","depth"] (λ_ _ _ _=>False):=
 T.DX.Xg DC (λ_ _ _ _ _ _ _ _ _ h=>h.elim) λ_ _ _ _ h=>h.elim
theorem P7:FT P w AJ T 8 t.BF t.BG ["self","depth"] (C0 t 0):=by
 refine T.DF.Xg CI ?_;rintro _ A _ s H _ Q E hr ⟨p,dx,l,d,ts,as,i,x,rs,rfl,s0,hR,q⟩;have nd:=CI.nd;refine⟨_,(AD (Ay (AU UZ (pv 1) (A9 T.VS) (AY _)) (AH (Au (Ac (pv 0) T.AL T.B9 (Bv T) hr.lt (CA T) .nil (Ag λ_ _ z=>z) (AB (A9 T.Od) AE)))) AX)
   (AD (Ay (AU B3 (Ad (pv 0) T.AL T.Ae (Ab T) hr.lt (Af T) .nil AK) Ah (AY _)) (AH (AO (Ad (pv 0) T.AL T.Ei (EK T) hr.lt (Ek T) .nil (Ag λ_ _ z=>z)))) AX)
   (AD (Ay (AU B3 (Ad (pv 0) T.AL T.Ae (Ab T) hr.lt (Af T) .nil AK) Ah (AY _)) (AD (Au (Ac (pv 0) T.AL T.Aq (Am T) hr.lt (Ar T) .nil (Ag λ_ _ z=>z) (AB Ah AE)))
   (AH (AO (CL T.VL (Ll T) hr.lt rfl T.VJ (MM T) .nil AK (AB (Ac (pv 0) T.AL T.Bx (ZZ T) hr.lt (By T) .nil (Ag λ_ _ z=>z) (AB (An Ca (pv 1) Aj) AE)) AE))))) AX)
   (AD (Ay (AU B3 (Ad (pv 0) T.AL T.Ae (Ab T) hr.lt (Af T) .nil AK) Ah (AY _)) (AD (Au (Ac (pv 0) T.AL T.Aq (Am T) hr.lt (Ar T) .nil (Ag λ_ _ z=>z) (AB Ah AE)))
   (AD (ps_sl 2 nd (Ac (pv 0) T.AL T.CF (B5 T) hr.lt (CG T) .nil (Ag λ_ _ z=>z) (AB Aj (AB (A9 T.VT) AE))))
   (AH (AO (CL T.XG (MW T) hr.lt rfl T.XF (OC T) .nil AK (AB (pv 2) (AB (Ac (pv 0) T.AL T.Bx (ZZ T) hr.lt (By T) .nil (Ag λ_ _ z=>z) (AB (An Ca (pv 1) Aj) AE)) AE))))))) AX)
   (AD (Ay (AU B3 (Ad (pv 0) T.AL T.Ae (Ab T) hr.lt (Af T) .nil AK) Ah (AY _)) (AH (AO (Ac (pv 0) T.AL T.Ga (qr T) hr.lt (Gf T) .nil (Ag λ_ _ z=>z) (AB (pv 1) AE)))) AX)
   (AH (AO (Ad (pv 0) T.AL T.E2 (Em T) hr.lt (E6 T) .nil (Ag λ_ _ z=>z))))))))),?_⟩
 walk_at "rd";refine Az (λ_=>Um (c:=4) s0 ?_) λh=>absurd (show (6:Int)<7 - ((0:Nat):Int) by lia) h;have e:takeTy rs 0 (ts.drop i)= .error ⟨4,x.place⟩:=by show Except.error _=_;rw[SK s0.Ce]
 rw[e] at q;exact q
theorem P8(T:Txt K mg t)(IH:FO P w K mg AJ t (8+3 * n) t.BF t.BG ["self","depth"] (C0 t n))
  (IH1:FO P w K mg AJ t (8+3 * n+2) t.Bq t.Br ["self","depth"] (HX t n)):
  FO P w K mg AJ t (8+3 * n+2+1) t.BF t.BG ["self","depth"] (C0 t (n+1)):=by
 refine T.DF.Xg CI ?_;rintro _ A _ s H _ Q E hr ⟨p,dx,l,d,ts,as,i,x,rs,rfl,s0,hR,q⟩;have nd:=CI.nd;refine⟨_,(AD (Ay (AU UZ (pv 1) (A9 T.VS) (AY _)) (AH (Au (Ac (pv 0) T.AL T.B9 (Bv T) (hr.mono (by lia)) (CA T) .nil (Ag λ_ _ z=>z) (AB (A9 T.Od) AE)))) AX)
   (AD (Ay (AU B3 (Ad (pv 0) T.AL T.Ae (Ab T) (hr.mono (by lia)) (Af T) .nil AK) Ah (AY _)) (AH (AO (Ad (pv 0) T.AL T.Ei (EK T) (hr.mono (by lia)) (Ek T) .nil (Ag λ_ _ z=>z)))) AX)
   (AD (Ay (AU B3 (Ad (pv 0) T.AL T.Ae (Ab T) (hr.mono (by lia)) (Af T) .nil AK) Ah (AY _)) (AD (Au (Ac (pv 0) T.AL T.Aq (Am T) (hr.mono (by lia)) (Ar T) .nil (Ag λ_ _ z=>z) (AB Ah AE)))
   (AH (AO (CL T.VL (Ll T) (hr.mono (by lia)) rfl T.VJ (MM T) .nil AK (AB (Ac (pv 0) T.AL T.Bx IH (hr.mono (by lia)) (By T) .nil (Ag λ_ _ z=>z) (AB (An Ca (pv 1) Aj) AE)) AE))))) AX)
   (AD (Ay (AU B3 (Ad (pv 0) T.AL T.Ae (Ab T) (hr.mono (by lia)) (Af T) .nil AK) Ah (AY _)) (AD (Au (Ac (pv 0) T.AL T.Aq (Am T) (hr.mono (by lia)) (Ar T) .nil (Ag λ_ _ z=>z) (AB Ah AE)))
   (AD (ps_sl 2 nd (Ac (pv 0) T.AL T.CF (B5 T) (hr.mono (by lia)) (CG T) .nil (Ag λ_ _ z=>z) (AB Aj (AB (A9 T.VT) AE))))
   (AH (AO (CL T.XG (MW T) (hr.mono (by lia)) rfl T.XF (OC T) .nil AK (AB (pv 2) (AB (Ac (pv 0) T.AL T.Bx IH (hr.mono (by lia)) (By T) .nil (Ag λ_ _ z=>z) (AB (An Ca (pv 1) Aj) AE)) AE))))))) AX)
   (AD (Ay (AU B3 (Ad (pv 0) T.AL T.Ae (Ab T) (hr.mono (by lia)) (Af T) .nil AK) Ah (AY _)) (AH (AO (Ac (pv 0) T.AL T.Ga IH1 (hr.mono (by lia)) (Gf T) .nil (Ag λ_ _ z=>z) (AB (pv 1) AE)))) AX)
   (AH (AO (Ad (pv 0) T.AL T.E2 (Em T) (hr.mono (by lia)) (E6 T) .nil (Ag λ_ _ z=>z))))))))),?_⟩
 walk_at "rd";have e1:[V.ref p,V.int (7 - ((n+1:Nat):Int)+1)]=[V.ref p,V.int (7 - (n:Int))]:=by rw[show (7 - ((n+1:Nat):Int)+1)=7 - (n:Int) by lia]
 have e2:[V.ref p,V.int (7 - ((n+1:Nat):Int))]=[V.ref p,V.int (6 - (n:Int))]:=by rw[show (7 - ((n+1:Nat):Int))=6 - (n:Int) by lia]
 refine Az (λh=>absurd h (by lia)) λ_=> ?_;unfold takeTy at q;refine Er s0 ⟨rfl,Az (λh1=> ?_) λh1=> ?_⟩
 ·have h1:=V.str.inj h1;rw[if_pos ((Ba Y5 s0).mpr h1)] at q;exact⟨⟨_,_,s0.at_,rfl⟩,p,dx,l,d,ts,as,i,x,rfl,s0,h1,q⟩
 rw[if_neg (λz=>h1 (congrArg V.str ((Ba Y5 s0).mp z)))] at q;refine Er s0 ⟨rfl,Az (λh1=> ?_) λh1=> ?_⟩
 ·have h1:=V.str.inj h1;rw[if_pos ((Ba Wb s0).mpr h1),Yb] at q;refine Ik s0 Wb.ne h1 λH1 y1 k1 s1=>⟨⟨_,_,s1.at_,rfl⟩,p,dx,l,d,ts,as,_,y1,rs,e1,s1,Bl.kp s0 hR k1,?_⟩;refine BQ.map s1 (BQ.kp q k1) λv H2 j2 y2 a k2 s2 ⟨b,eb,rb⟩ q=> ?_;subst eb;exact Yq rfl λxx dy H3 _ s3 e3=>q.new s2 s3 ⟨xx,rfl,dy,b,e3,rb.mono (KO.of s3)⟩
 rw[if_neg (λz=>h1 (congrArg V.str ((Ba Wb s0).mp z)))] at q;refine Er s0 ⟨rfl,Az (λh1=> ?_) λh1=> ?_⟩
 ·have h1:=V.str.inj h1;rw[if_pos ((Ba Y6 s0).mpr h1),Yb] at q;refine Ik s0 Y6.ne h1 λH1 y1 k1 s1=>⟨⟨_,_,s1.at_,rfl⟩,p,dx,l,d,ts,as,_,y1,1,8,rfl,s1,?_⟩;refine BQ.bind s1 (BQ.kp q k1) λv H2 j2 y2 a k2 s2 ev q=> ?_;subst ev;refine⟨⟨_,_,s2.at_,rfl⟩,p,dx,l,d,ts,as,_,y2,rs,e1,s2,Bl.kp s1 (Bl.kp s0 hR k1) k2,?_⟩;refine BQ.map s2 q λv H3 j3 y3 a3 k3 s3 ⟨b,eb,rb⟩ q=> ?_;subst eb;exact Yq rfl λxx dy H4 _ s4 e4=>q.new s3 s4 ⟨xx,rfl,dy,b,e4,rb.mono (KO.of s4)⟩
 rw[if_neg (λz=>h1 (congrArg V.str ((Ba Y6 s0).mp z)))] at q;refine Er s0 ⟨rfl,Az (λh1=> ?_) λh1=> ?_⟩
 ·have h1:=V.str.inj h1;rw[if_pos ((Ba eB s0).mpr h1)] at q;exact⟨⟨_,_,s0.at_,rfl⟩,p,dx,l,d,ts,as,i,x,rs,e2,s0,hR,h1,q⟩
 rw[if_neg (λz=>h1 (congrArg V.str ((Ba eB s0).mp z)))] at q;exact⟨⟨_,_,s0.at_,rfl⟩,p,dx,l,d,ts,as,i,x,rs,rfl,s0,hR,q⟩
theorem Dr(T:Txt K mg t):∀n,FO P w K mg AJ t (8+3 * n) t.BF t.BG ["self","depth"] (C0 t n)
 | 0=>P7 T
 |n+1=>P8 T (Dr T n) (NV T (Ln T (Dr T n)))
theorem SE:FT P w AJ T 26 t.BF t.BG ["self","depth"] (C0 t 6):=Dr T 6
end
section
def tf(rs:List Rec):Nat->List (PName×Nat×Ty)->Toks->Except Fault (Ty×Toks)
 | 0,_,l=>wrong l
 |n+1,fs,l=>if ValayBase.next (.sign 125) l=true/\fs.isEmpty=false then .ok (.rec_ (Valaya.rowOf fs),l) else(takeName l).bind λx=>if fs.any (λf=>f.1.name==x.1.name)=true then .error ⟨5,x.1.place⟩ else(takeSign 58 x.2).bind λm=>(takeTy rs DEPTH m).bind λt=>(Yc t.2).bind λk=>(takeSign 59 k.2).bind λm=>tf rs n (fs++ [(x.1,k.1,t.1)]) m
theorem oE{fs:List (PName×Nat×Ty)}{l:Toks}:tf rs (n+1) fs l=if ValayBase.next (.sign 125) l=true/\fs.isEmpty=false then .ok (.rec_ (Valaya.rowOf fs),l) else(takeName l).bind λx=>if fs.any (λf=>f.1.name==x.1.name)=true then .error ⟨5,x.1.place⟩ else(takeSign 58 x.2).bind λm=>(takeTy rs DEPTH m).bind λt=>(Yc t.2).bind λk=>(takeSign 59 k.2).bind λm=>tf rs n (fs++ [(x.1,k.1,t.1)]) m:=rfl
theorem YE{F:List V->List (Str×V)}{args:List V}{Q:Addr->Hp->Prop}(hl:args.length=n)(h:∀x dx H2,H x=none->AR H H2->H2 x=some (.ins C dx (F args))->Q x H2):
  ∀x dx:Addr,H x=none->H dx=none->dx≠x->Ko C n F (V.ref x::args) (upd (upd H dx (HO.own x)) x (HO.ins C dx [])) (λv H2=>v=V.Fn/\Q x H2) (λ_ _ _=>False):=λx dx nx nd ne=>
 ⟨x,dx,args,rfl,hl,AG,rfl,by rw[BR];exact h x dx _ nx (AR.new nx nd) AG⟩
theorem DJ{α β γ:Type}{r:Except Fault α}{f:α->Except Fault β}{g:β->Except Fault γ}:(r.bind f).bind g=r.bind λa=>(f a).bind g:=by cases r<;>rfl
theorem SS(rs:List Rec):∀(n:Nat) (fs:List (PName×Nat×Ty)) (l:Toks),takeFields rs n fs l=(tf rs n fs l).bind λz=>(takeSign 125 z.2).bind λm=> .ok (z.1,m)
 | 0,_,_=>rfl
 |n+1,fs,l=>by
  unfold takeFields tf;by_cases h:ValayBase.next (.sign 125) l=true/\fs.isEmpty=false
  ·rw[if_pos h,if_pos h];show _=(takeSign 125 l).bind _;unfold takeSign taken;rw[if_pos h.1];rfl
  ·rw[if_neg h,if_neg h,DJ];congr 1;funext x;by_cases h2:fs.any (λf=>f.1.name==x.1.name)=true
   ·rw[if_pos h2,if_pos h2];rfl
   ·rw[if_neg h2,if_neg h2,DJ];congr 1;funext m;rw[DJ];congr 1;funext t;rw[DJ];congr 1;funext k;rw[DJ];congr 1;funext m;exact SS rs n _ m
theorem BQ.uV{α β:Type}{R:Hp->V->α->Prop}{R0:Hp->V->β->Prop}{r:Except Fault (α×Toks)}{f:α×Toks->Except Fault (β×Toks)}(st:Hg t H p dx l d ts as i x)(k0:Kp p H0 H)(q:BQ t E Q H0 p dx l d ts R0 (r.bind f))
  (hl:∀a m,r= .ok (a,m)->m.length<=(ts.drop i).length) (k:∀v H' j y a,Kp p H H'->Hg t H' p dx l d ts as j y->i<=j->R H' v a->BQ t E Q H0 p dx l d ts R0 (f (a,ts.drop j))->Q' v H'):BQ t E Q' H p dx l d ts R r:=by
 cases r with
 |error f=>exact Gi.kp q k0
 |ok a=>
  intro v H1 j k1 k2 k3 k4 k5;obtain⟨y,s1,_⟩:=st.next k1 k2 k3
  refine k v H1 j y a.1 k1 s1 ?_ k5 (by rw[k4];exact q);have:=hl a.1 a.2 rfl;rw[<-k4,length_drop,length_drop] at this;have:=st.lt;lia
inductive Lo(t:Bz)(H:Hp)(a:Addr)(z:PName×Nat×Ty):Prop | mk:∀dx b,H a=some (.ins t.IW dx (jE [.str (strOf z.1.name),.ref b,.int (z.2.1:Nat)]))->Rep t H z.2.2 (.sh b)->Lo t H a z
theorem Lo.mono{a:Addr}{z:PName×Nat×Ty}(h:Lo t H a z)(k:KO H H'):Lo t H' a z:=let ⟨dx,b,e,r⟩:=h;⟨dx,b,k _ _ (rG fS rfl (by decide+kernel)) e,r.mono k⟩
inductive Px(t:Bz)(H:Hp)(D:Addr)(zs:List (PName×Nat×Ty)):Prop | mk:∀za:List ((PName×Nat×Ty)×Addr),za.map (·.1)=zs->H D=some (.dK (Cs za))->(∀z∈za,Lo t H z.2 z.1)->Px t H D zs
theorem Px.mono{zs:List (PName×Nat×Ty)}(h:Px t H D zs)(k:KO H H')(kd:∀kvs,H D=some (.dK kvs)->H' D=some (.dK kvs)):Px t H' D zs:=
 let ⟨za,e,hd,hz⟩:=h;⟨za,e,kd _ hd,λz m=>(hz z m).mono k⟩
theorem Px.kp(st:Hg t H p dx l d ts as i x)(h:Px t H D zs)(k:Kp p H H'):Px t H' D zs:=
 h.mono (st.ko k) λkvs e=>k _ _ (λz=>by rw[z,st.at_] at e;cases e) e
theorem Px.nm(h:Px t H D zs):wb H D (zs.map λz=>strOf z.1.name):=by obtain⟨za,e,hd,_⟩:=h;refine⟨_,hd,?_⟩;rw[<-e];unfold Cs;simp only[map_map];rfl
theorem Rep.xm:∀{za:List ((PName×Nat×Ty)×Addr)},(∀z∈za,Lo t H z.2 z.1)->Rep t H (Valaya.rowOf (za.map (·.1))) (.fld (za.map (·.2)))
 | [],_=>rfl
 |z::za,h=>let ⟨dx,b,e,r⟩:=h z (mem_cons_self);⟨z.2,_,dx,b,rfl,e,r,Rep.xm λy m=>h y (mem_cons_of_mem _ m)⟩
inductive rX(t:Bz)(H:Hp)(v:V)(ty:Ty):Prop | mk:∀a fs bs,v= .ref a->ty= .rec_ fs->H a=some (.lst (bs.map V.ref))->Rep t H fs (.fld bs)->rX t H v ty
inductive Rl(t:Bz)(vs:List V)(H:Hp)(Q:VK)(E:XK):Prop | mk:∀p dx l d ts as i x rs f,vs=[.ref p]->Hg t H p dx l d ts as i x->Bl t H d rs->ts.length<=100000->ts.length<=f+i->BQ t E Q H p dx l d ts (rX t) (tf rs f [] (ts.drop i))->Rl t vs H Q E
theorem lq{l m:Toks}(h:Yc l= .ok (n,m)):m.length<=l.length:=by
 unfold Yc at h;split at h
 ·have:=cn h;rw[length_drop] at this;lia
 ·cases h;exact Nat.le_refl _
theorem P9:FT P w AJ T 27 t.Ec t.Ed ["self"] (Rl t):=by
 refine T.JE.Xg Ho ?_;rintro _ A _ s H _ Q E hr ⟨p,dx,l,d,ts,as,i,x,rs,f,rfl,s0,hR,tl,fl,q⟩;have nd:=Ho.nd;refine⟨_,(AD (ps_sl 1 nd Yx)
   (AD (FX PassesOwn.leaving (PW.pt (Wv (AU FV (Ad (pv 0) T.AL T.Ae (Ab T) hr.lt (Af T) .nil AK) Ah (AY _)) (QF (AU B3 (AZ Nq rfl T.B7 PySem.boot_len (AB (pv 1) AE)) Aj (AY _))))) (AD (ps_sl 2 nd (Ac (pv 0) T.AL T.Dl (DZ T) hr.lt (Dn T) .nil (Ag λ_ _ z=>z) (AB (pv 1) AE)))
   (AD (Au (Ac (pv 0) T.AL T.Aq (Am T) hr.lt (Ar T) .nil (Ag λ_ _ z=>z) (AB Ah AE)))
   (AD (ps_sl 3 nd (Ac (pv 0) T.AL T.Bx (SE T) hr.lt (By T) .nil (Ag λ_ _ z=>z) (AB Aj AE)))
   (AD (df (YZ hr) (pv 1) (pv 2) (CL T.sW (bJ T) hr.lt rfl T.sV (eY T) .nil AK (AB (pv 2) (AB (pv 3) (AB (Ad (pv 0) T.AL T.Vr (UU T) hr.lt (Vw T) .nil (Ag λ_ _ z=>z)) AE)))) rfl)
   (AH (Au (Ac (pv 0) T.AL T.Aq (Am T) hr.lt (Ar T) .nil (Ag λ_ _ z=>z) (AB Ah AE)))))))))
   (AH (AO (Yz rfl rfl T.Yn (pv 1)))))),?_⟩
 walk_at "rd";intro D hD0;have k0:Kp p H (upd H D (.dK [])):=Kp.of (AR.upd hD0);have pD:p≠D:=λz=>by have:=s0.at_;rw[z,hD0] at this;cases this
 obtain⟨y0,s00,ey0⟩:=s0.next k0 (by rw[AM pD];exact s0.at_) s0.lt
 rw[s0.Ce] at ey0;cases ey0;have hR0:=Bl.kp s0 hR k0;have dD:d≠D:=λz=>by obtain⟨_,_,hd,_⟩:=hR;rw[z,hD0] at hd;cases hd
 have hA0:Px t (upd H D (.dK [])) D []:=⟨[],rfl,AG,λz m=>by cases m⟩;refine bU (λσ H'=>∃(j:Nat) (y:PTok) (zs:List (PName×Nat×Ty)) (f:Nat) (v1 v2:Option V),σ=[some (.ref p),some (.ref D),v1,v2]/\Kp p H H'/\Hg t H' p dx l d ts as j y/\Px t H' D zs/\zs≠ []/\kindOf y.tok=Gj [125]/\1<=f/\
   BQ t E Q H p dx l d ts (rX t) (tf rs f zs (ts.drop j))) (λnx hnx=> ?_) ?_
 ·refine KY (λσ H'=>∃(j:Nat) (y:PTok) (zs:List (PName×Nat×Ty)) (f:Nat) (v1 v2:Option V),σ=[some (.ref p),some (.ref D),v1,v2]/\Kp p H H'/\Hg t H' p dx l d ts as j y/\Bl t H' d rs/\Px t H' D zs/\zs.length<=j/\ts.length<=f+j/\
   BQ t E Q H p dx l d ts (rX t) (tf rs f zs (ts.drop j))) (λ_ H'=>ts.length - fK H' p) ⟨i,x,[],f,none,none,rfl,k0,s00,hR0,hA0,zero_le _,fl,q⟩ ?_
  rintro σ H' ⟨j,y,zs,f,v1,v2,rfl,kk,st,hR',hA,zj,hf,q⟩;walk_at "rd";have fpos:1<=f:=by have:=st.lt;lia
  obtain⟨f,rfl⟩:∃g,f=g+1:=⟨f - 1,by lia⟩;obtain⟨za0,ez0,hD0',_⟩:=id hA;have zl:((Cs za0).length:Int)=zs.length:=by unfold Cs;rw[length_map,<-ez0,length_map]
  have bad:¬(ValayBase.next (.sign 125) (ts.drop j)=true/\zs.isEmpty=false)->kindOf y.tok≠Str.ofString "name"->Gi t.BC E (Kp p H') 3 y.place:=λnc hk=>by rw[oE,if_neg nc,(ER st.Ce).2 hk] at q;exact Gi.kp q kk
  refine Er st ⟨rfl,Az (λh2=>NZ ?_) λh2=>⟨_,hD0',rfl,Az (λh3=>NZ ?_) λh3=> ?_⟩⟩
  ·have h2:y.tok≠ .sign 125:=λz=>h2 (by rw[BN.mpr z];rfl);have nc:¬(ValayBase.next (.sign 125) (ts.drop j)=true/\zs.isEmpty=false):=λz=>h2 ((Ep st.Ce _).mp z.1);refine Oe st hA.nm (λb eb nr hb H1 y1 k1 s1=> ?_) (λb eb nr hb=> ?_) (bad nc)
   ·have e:tf rs (f+1) zs (ts.drop j)=(takeSign 58 (ts.drop (j+1))).bind λm=>(takeTy rs DEPTH m).bind λt=>(Yc t.2).bind λk=>(takeSign 59 k.2).bind λm=>tf rs f (zs++ [(⟨y.place,b⟩,k.1,t.1)]) m:=by
     rw[oE,if_neg nc,(ER st.Ce).1 b eb nr];exact if_neg (λz=>hb (U1.mp z))
    rw[e] at q;refine Nv (tk:= .sign 58) s1 (kk.trans k1) (by decide+kernel) (λz=>BN) q λH2 y2 k2 s2 q=> ?_;refine⟨⟨_,_,s2.at_,rfl⟩,p,dx,l,d,ts,as,_,y2,rs,rfl,s2,Bl.kp s1 (Bl.kp st hR' k1) k2,BQ.uV s2 ((kk.trans k1).trans k2) q (λa m=>V7 rs 6 _ a m) λv H3 j3 y3 ty k3 s3 le3 ⟨b3,eb3,rb3⟩ q=> ?_⟩;subst eb3;refine⟨⟨_,_,s3.at_,rfl⟩,p,dx,l,d,ts,as,_,y3,rfl,s3,BQ.uV s3 (((kk.trans k1).trans k2).trans k3) q (λa m=>lq) λv H4 j4 y4 h4 k4 s4 le4 ev q=> ?_⟩;subst ev;refine YE rfl λxx dy H5 nx5 sm5 e5=> ?_;have hA4:=Px.kp s3 (Px.kp s2 (Px.kp s1 (Px.kp st hA k1) k2) k3) k4;have hR4:=Bl.kp s3 (Bl.kp s2 (Bl.kp s1 (Bl.kp st hR' k1) k2) k3) k4;obtain⟨za,ez,hD,hz⟩:=hA4.mono (KO.of sm5) (λkvs e=>sm5 _ _ e);have hnew:EL (Cs za) (Sum.inr (strOf b):Key)=none:=by
     cases ev:EL (Cs za) (Sum.inr (strOf b):Key) with
     |none=>rfl
     |some v=>exfalso;have:=X7 ev;unfold Cs at this;rw[map_map] at this;obtain⟨z,m,e⟩:=mem_map.mp this;refine hb (mem_map.mpr ⟨z.1,?_,Sum.inr.inj e⟩);rw[<-ez];exact mem_map.mpr ⟨z,m,rfl⟩
    have zlen:za.length=zs.length:=by rw[<-ez,length_map]
    have:=st.lt;have hl3:(Cs za).length<sizeLine:=by unfold Cs;rw[length_map,zlen,sizeLine_eq];lia
    refine⟨_,fN.k (k:=Sum.inr (strOf b)) hD hl3,?_⟩;rw[Yw _ hnew];have ko:=KO.uu (o:= .dK (Cs za++ [(Sum.inr (strOf b),V.ref xx)])) hD;obtain⟨y6,s6⟩:=s4.jG (j:=j4) ((KO.of sm5).trans ko) (by rw[AM pD];exact sm5 _ _ s4.at_) s4.lt;have kp6:Kp p H (upd H5 D (.dK (Cs za++ [(Sum.inr (strOf b),V.ref xx)]))):=λc o c1 e=>by rw[AM (λz=>by rw[z,hD0] at e;cases e)];exact sm5 _ _ (k4 _ _ c1 (k3 _ _ c1 (k2 _ _ c1 (k1 _ _ c1 (kk _ _ c1 e)))))
    have hR6:=(hR4.mono (KO.of sm5) λkvs e=>sm5 _ _ e).mono ko λkvs e=>by rw[AM dD];exact e
    have hA6:Px t (upd H5 D (.dK (Cs za++ [(Sum.inr (strOf b),V.ref xx)]))) D (zs++ [(⟨y.place,b⟩,h4,ty)]):=by
     refine⟨za++ [((⟨y.place,b⟩,h4,ty),xx)],?_,?_,λz m=> ?_⟩
     ·rw[map_append,ez];rfl
     ·rw[AG];unfold Cs;rw[map_append];rfl
     ·rcases mem_append.mp m with m | m
      ·exact(hz z m).mono ko
      ·cases mem_singleton.mp m;exact Lo.mono (H:=H5) ⟨dy,b3,e5,(rb3.kp k4 s3.at_ rfl).mono (KO.of sm5)⟩ ko
    refine Nv (tk:= .sign 59) s6 kp6 (by decide+kernel) (λz=>BN) q λH7 y7 k7 s7 q=> ?_;refine⟨⟨j4+1,y7,_,f,_,_,rfl,kp6.trans k7,s7,Bl.kp s6 hR6 k7,Px.kp s6 hA6 k7,by simp;lia,by lia,q⟩,?_⟩;show ts.length - fK H7 p<ts.length - fK H' p;rw[s7.toiS.fK,st.toiS.fK];have:=s7.lt;lia
   ·have e:tf rs (f+1) zs (ts.drop j)= .error ⟨5,y.place⟩:=by
     rw[oE,if_neg nc,(ER st.Ce).1 b eb nr];exact if_pos (U1.mpr hb)
    rw[e] at q;exact Gi.kp q kk
  ·have h2:kindOf y.tok=Gj [125]:=V.str.inj (Classical.not_not.mp h2);have z0:zs=[]:=eq_nil_of_length_eq_zero (by lia);refine Oe st hA.nm (λb eb=>absurd (BN.mp h2) (by rw[eb];intro z;cases z)) (λb eb=>absurd (BN.mp h2) (by rw[eb];intro z;cases z)) (bad (λz=>by rw[z0] at z;cases z.2))
  ·have h2:kindOf y.tok=Gj [125]:=V.str.inj (Classical.not_not.mp h2);exact hnx _ _ ⟨j,y,zs,f+1,v1,v2,rfl,kk,st,hA,(λz=>h3 (by rw[zl,z];rfl)),h2,fpos,q⟩
 ·rintro σ H' ⟨j,y,zs,f,v1,v2,rfl,kk,st,hA,z0,hk,f1,q⟩;walk_at "rd";obtain⟨f,rfl⟩:∃g,f=g+1:=⟨f - 1,by lia⟩;unfold tf at q;rw[if_pos ⟨(Ep st.Ce _).mpr (BN.mp hk),by cases zs<;>first | exact absurd rfl z0 | rfl⟩] at q;obtain⟨za,ez,hD,hz⟩:=hA;refine⟨_,hD,λl1 n1=>(BQ.kp q kk).new st (AR.upd n1) ⟨l1,_,za.map (·.2),rfl,rfl,?_,?_⟩⟩
  ·rw[AG];unfold Cs;simp only[map_map];rfl
  ·rw[<-ez];exact Rep.xm λz m=>(hz z m).mono (KO.of (AR.upd n1))
end
end Pr
namespace L2
open PySem PySem.Spec PyProof.Rows
theorem OV{e:Expr}{f:Str}{pos:Pos}{ta:TE}(he:PE X e ta)(hb:attributeBase e f X.env (eval e X.env)=eval e X.env)(hK:X.K=K):PE X (.Attribute e f pos) (uj K ta f):=by subst hK;exact AQ he hb
theorem YF{es:List Expr}{k:Nat}{pos:Pos}{t:tR}(hc:X.calm=true)(h:wj X es t)(hK:X.K=K)
  (hn:(assignEach es X.env).length=n:=by rfl) (hst:(assignEach es X.env).findIdx? (·.1)=none:=by rfl):PG X (.Tuple es k pos) (rO K n t):=by
 subst hK;exact Yd hc h hn hst
section
variable{zs:List V}{k:Nat}{te:TE}{σ:St}{Qd:Hp->Prop}
theorem take_set{α:Type}{ys:List α}{y:α}(h:ys[i]?=some y):ys.take i++ [y]=ys.take (i+1):=by rw[take_add_one,h];rfl
theorem OS(ys:List V)(hys:ys.length=xs.length)(hS:A4 K H1 a xs)(hn:xs.length<sizeLine)(hD:H1 D=none)
  (he:∀(i:Nat) x y H Q,xs[i]?=some x->ys[i]?=some y->AR H1 H->(∀H',AR H H'->Q y H')->te ((σ.set j none).set j (some x)) H Q) (hd:∀H,AR H1 H->H D=some (.lst ys)->Qd H):
  ∃W:Nat->Nat->Hp->Prop,(∃m,W 0 m (upd H1 D (.lst [])))/\∀i m H,W i m H->
   ((kD K a).stop i H/\Qd H)\/((kD K a).go i H/\∃Nx:Hp->Prop,(∀H',Nx H'->∃m',m'<m/\W (i+1) m' H')/\∀x H',(kD K a).iU i H x H'->QD j x (B0 σ [j]) H' λσ2 H2=>B0 σ2 [j]=B0 σ [j]/\aP σ2 H2 λb H3=>if b=true then te σ2 H3 λy H4=>∃acc,H4 D=some (.lst acc)/\acc.length<sizeLine/\Nx (upd H4 D (.lst (acc++ [y]))) else Nx H3):=by
 refine de (K:=K) (a:=a) (xs:=xs) (λi H=>AR H1 H/\H D=some (.lst (ys.take i))) ⟨AR.upd hD,AG⟩ (λi H _ p=>p.1.seq hS) (λi x H hx p=> ?_) λH p=>hd H p.1 (by rw[p.2,<-hys,take_length]);have hi:=(List.getElem?_eq_some_iff.mp hx).1;obtain⟨y,hy⟩:∃y,ys[i]?=some y:=⟨_,getElem?_eq_getElem (by lia)⟩;have ew:B0 σ [j]=σ.set j none:=rfl;refine⟨by simp[B0,set_set],?_⟩;simp only[aP,if_true,ew];refine he i x y H _ hx hy p.1 λH' s=>⟨_,s _ _ p.2,by rw[length_take];lia,?_,?_⟩
 ·intro c o e;rw[AM (Ax e hD)];exact s _ _ (p.1 c o e)
 ·rw[AG,take_set hy]
theorem sv(ys:List V)(hys:ys.length=n)(hn:n<sizeLine)(hD:H1 D=none)
  (he:∀(i:Nat) y H Q,i<n->ys[i]?=some y->AR H1 H->(∀H',AR H H'->Q y H')->te ((σ.set j none).set j (some (.int ((0:Int)+(i:Nat))))) H Q) (hd:∀H,AR H1 H->H D=some (.lst ys)->Qd H):
  ∃W:Nat->Nat->Hp->Prop,(∃m,W 0 m (upd H1 D (.lst [])))/\∀i m H,W i m H->
   ((nv 0 n).stop i H/\Qd H)\/((nv 0 n).go i H/\∃Nx:Hp->Prop,(∀H',Nx H'->∃m',m'<m/\W (i+1) m' H')/\∀x H',(nv 0 n).iU i H x H'->QD j x (B0 σ [j]) H' λσ2 H2=>B0 σ2 [j]=B0 σ [j]/\aP σ2 H2 λb H3=>if b=true then te σ2 H3 λy H4=>∃acc,H4 D=some (.lst acc)/\acc.length<sizeLine/\Nx (upd H4 D (.lst (acc++ [y]))) else Nx H3):=by
 refine fo (λi H=>AR H1 H/\H D=some (.lst (ys.take i))) ⟨AR.upd hD,AG⟩ (λi H hi p=> ?_) λH p=>hd H p.1 (by rw[p.2,<-hys,take_length]);obtain⟨y,hy⟩:∃y,ys[i]?=some y:=⟨_,getElem?_eq_getElem (by lia)⟩;have ew:B0 σ [j]=σ.set j none:=rfl;refine⟨by simp[B0,set_set],?_⟩;simp only[aP,if_true,ew];refine he i y H _ hi hy p.1 λH' s=>⟨_,s _ _ p.2,by rw[length_take];lia,?_,?_⟩
 ·intro c o e;rw[AM (Ax e hD)];exact s _ _ (p.1 c o e)
 ·rw[AG,take_set hy]
theorem eD(ys:List V)(hjk:j≠k)(hxz:xs.length=zs.length)(hys:ys.length=xs.length)(hS:A4 K H1 a xs)(hS2:A4 K H1 b zs)(hn:xs.length<sizeLine)(hD:H1 D=none)
  (he:∀(i:Nat) x z y H Q,xs[i]?=some x->zs[i]?=some z->ys[i]?=some y->AR H1 H->(∀H',AR H H'->Q y H')->te ((((σ.set k none).set j none).set j (some x)).set k (some z)) H Q) (hd:∀H,AR H1 H->H D=some (.lst ys)->Qd H):
  ∃W:Nat->Nat->Hp->Prop,(∃m,W 0 m (upd H1 D (.lst [])))/\∀i m H,W i m H->
   ((tV K a b).stop i H/\Qd H)\/((tV K a b).go i H/\∃Nx:Hp->Prop,(∀H',Nx H'->∃m',m'<m/\W (i+1) m' H')/\∀x H',(tV K a b).iU i H x H'->rO K 2 (kI (QD j) (kI (QD k) ug)) x (B0 σ [j,k]) H' λσ2 H2=>B0 σ2 [j,k]=B0 σ [j,k]/\aP σ2 H2 λb H3=>if b=true then te σ2 H3 λy H4=>∃acc,H4 D=some (.lst acc)/\acc.length<sizeLine/\Nx (upd H4 D (.lst (acc++ [y]))) else Nx H3):=by
 refine vf (K:=K) (a:=a) (b:=b) (xs:=xs) (ys:=zs) (λi H=>AR H1 H/\H D=some (.lst (ys.take i))) hxz ⟨AR.upd hD,AG⟩ (λi H _ p=>⟨p.1.seq hS,p.1.seq hS2⟩) (λi x z H T hx hz p hT=> ?_) λH p=>hd H p.1 (by rw[p.2,<-hys,take_length]);have hi:=(List.getElem?_eq_some_iff.mp hx).1;obtain⟨y,hy⟩:∃y,ys[i]?=some y:=⟨_,getElem?_eq_getElem (by lia)⟩;have ew:B0 σ [j,k]=(σ.set k none).set j none:=rfl;have sT:AR H (upd H T (.tup [x,z])):=AR.upd hT;refine⟨T,_,rfl,YO.of AG,rfl,x,_,rfl,z,_,rfl,rfl,?_,?_⟩
 ·simp only[B0,set_set];rw[List.set_comm _ _ hjk];simp[set_set]
 ·simp only[aP,if_true,ew];refine he i x z y _ _ hx hz hy (p.1.trans sT) λH' s=>⟨_,s _ _ (sT _ _ p.2),by rw[length_take];lia,?_,?_⟩
  ·intro c o e;rw[AM (Ax e hD)];exact s _ _ (sT _ _ (p.1 c o e))
  ·rw[AG,take_set hy]
end
end L2
namespace Pr
open PySem PySem.Spec PyProof.Rows L2
theorem CV{bs:List Addr}{x:V}(h:(bs.map V.ref)[i]?=some x):∃b,bs[i]?=some b/\x= .ref b:=by rw[getElem?_map] at h;obtain⟨b,hb,e⟩:=map_eq_some_iff.mp h;exact⟨b,hb,e.symm⟩
theorem A5{α β:Type}{f:α->β}{l:List α}{y:β}(h:(l.map f)[i]?=some y):∃z,l[i]?=some z/\y=f z:=by rw[getElem?_map] at h;obtain⟨b,hb,e⟩:=map_eq_some_iff.mp h;exact⟨b,hb,e.symm⟩
end Pr
namespace Mt
theorem any_congr{α:Type}{l:List α}{f g:α->Bool}(h:∀x∈l,f x=g x):l.any f=l.any g:=by
 induction l with
 |nil=>rfl
 |cons x r ih=>rw[any_cons,any_cons,h x mem_cons_self,ih λy hy=>h y (mem_cons_of_mem _ hy)]
end Mt
namespace L2
open PySem PySem.Spec PyProof.Rows
theorem Bm.aK{CX:fJ}{x qual:Str}{st:Stmt}{f:Addr}{N:List Str}{sp:Sp}{k:Nat}(F:Bm K x qual st f fd)(S:AN N ps (AI st))(h:∀vs H Q E,¬sp vs H Q E):Ih P w K mg AJ CX (k+1) f fd ps sp:=
 F.Xg S (λ_ _ _ _ _ _ _ _ _ z=>(h _ _ _ _ z).elim) λ_ _ _ _ z=>(h _ _ _ _ z).elim
theorem lu:∀{fs:List (Str×V)} {m:Str},m∉fs.map (·.1)->fs.lookup m=none
 | [],_,_=>rfl
 |f::fs,m,h=>by rw[map_cons,mem_cons,not_or] at h;rw[lookup_cons,show (m==f.1)=false by rw[beq_eq_false_iff_ne];exact h.1];exact lu h.2
end L2
namespace Pr
open PySem PySem.Spec PyProof.Rows L2
open ValayBase (PTok Toks PName Bytes)
open Valaya (Ty Rec)
section
theorem Rep.alts:∀{fs:Ty} {ns:List Str} {bs:List Addr},Rep t H fs (.alt ns bs)->∃zs:List (PName×Nat×Ty),fs=Valaya.rowOf zs/\ns=zs.map (λz=>strOf z.1.name)/\bs.length=zs.length/\∀(i:Nat) (b:Addr) (z:PName×Nat×Ty),bs[i]?=some b->zs[i]?=some z->Rep t H z.2.2 (.sh b)
 | .nil,ns,bs,h=>by obtain⟨rfl,rfl⟩:=h;exact⟨[],rfl,rfl,rfl,λi b z hb=>by cases hb⟩
 | .field x hh ty r,ns,bs,h=>by
  obtain⟨b,ns',bs',rfl,rfl,h1,h2⟩:=h;obtain⟨zs,e,e2,e3,e4⟩:=Rep.alts h2;refine⟨(x,hh,ty)::zs,by rw[e];rfl,by rw[e2];rfl,by simp[e3],λi c z hc hz=> ?_⟩;cases i with
  |zero=>cases hc;cases hz;exact h1
  |succ i=>exact e4 i c z (by simpa using hc) (by simpa using hz)
 | .num _ _ _,_,_,h=>h.elim
 | .maybe _,_,_,h=>h.elim
 | .many _ _,_,_,h=>h.elim
 | .one_ _,_,_,h=>h.elim
 | .named _ _,_,_,h=>h.elim
 | .rec_ _,_,_,h=>h.elim
theorem Rep.fields:∀{fs:Ty} {bs:List Addr},Rep t H fs (.fld bs)->∃zs:List (PName×Nat×Ty),fs=Valaya.rowOf zs/\bs.length=zs.length/\∀(i:Nat) (b:Addr) (z:PName×Nat×Ty),bs[i]?=some b->zs[i]?=some z->Lo t H b z
 | .nil,bs,h=>by have h:bs=[]:=h;subst h;exact⟨[],rfl,rfl,λi b z hb=>by cases hb⟩
 | .field x hh ty r,bs,h=>by
  obtain⟨b,bs',dx,c,rfl,h1,h2,h3⟩:=h;obtain⟨zs,e,e3,e4⟩:=Rep.fields h3;refine⟨(x,hh,ty)::zs,by rw[e];rfl,by simp[e3],λi c' z hc hz=> ?_⟩;cases i with
  |zero=>cases hc;cases hz;exact⟨dx,c,h1,h2⟩
  |succ i=>exact e4 i c' z (by simpa using hc) (by simpa using hz)
 | .num _ _ _,_,h=>h.elim
 | .maybe _,_,h=>h.elim
 | .many _ _,_,h=>h.elim
 | .one_ _,_,h=>h.elim
 | .named _ _,_,h=>h.elim
 | .rec_ _,_,h=>h.elim
theorem Hu:∀zs:List (PName×Nat×Ty),countLeaves (Valaya.rowOf zs)=(zs.map λz=>countLeaves z.2.2).sum
 | []=>rfl
 |z::zs=>by show _+_=_;rw[Hu zs,map_cons,sum_cons]
theorem Za:∀zs:List (PName×Nat×Ty),sharedBits (Valaya.rowOf zs) false=(zs.map λz=>sharedBits z.2.2 false).sum
 | []=>rfl
 |z::zs=>by show _+_=_;rw[Za zs,map_cons,sum_cons]
theorem Zb:∀zs:List (PName×Nat×Ty),(∀z∈zs,sharedBits z.2.2 false<=sharedBits (Valaya.rowOf zs) true)/\(zs=[]\/∃z∈zs,sharedBits z.2.2 false=sharedBits (Valaya.rowOf zs) true)
 | []=>⟨λz h=>(by cases h),.inl rfl⟩
 |z::zs=>by
  obtain⟨h1,h2⟩:=Zb zs;have e:sharedBits (Valaya.rowOf (z::zs)) true=Nat.max (sharedBits z.2.2 false) (sharedBits (Valaya.rowOf zs) true):=rfl;rw[e];refine⟨λy hy=> ?_,.inr ?_⟩
  ·rcases mem_cons.mp hy with rfl | hy
   ·exact le_max_left _ _
   ·exact Nat.le_trans (h1 y hy) (Nat.le_max_right _ _)
  ·by_cases z1:sharedBits (Valaya.rowOf zs) true<=sharedBits z.2.2 false
   ·exact⟨z,mem_cons_self,(max_eq_left z1).symm⟩
   ·rcases h2 with rfl | ⟨y,hy,e⟩
    ·exact absurd (zero_le _) z1
    ·exact⟨y,mem_cons_of_mem _ hy,by rw[e];exact(max_eq_right (by lia)).symm⟩
theorem KZ:∀{zs:List (PName×Nat×Ty)} {z:PName×Nat×Ty},z∈zs->Mt.dep z.2.2<=Mt.dep (Valaya.rowOf zs)
 |y::zs,z,h=>by
  rcases mem_cons.mp h with rfl | h
  ·exact le_max_left _ _
  ·exact Nat.le_trans (KZ h) (Nat.le_max_right _ _)
def mS(t:Bz)(C:Addr)(ns:List Str):Prop:=(C=t.A6/\ns=KL)\/(C=t.BO/\ns=KN)\/(C=t.BS/\ns=KP)\/(C=t.BV/\ns=KQ)\/(C=t.BP/\ns=KR)
theorem Rep.wc(h:Rep t H ty (.sh a)):∃C dx fs,H a=some (.ins C dx fs)/\mS t C (fs.map (·.1)):=by
 cases ty with
 |num lo hi al=>obtain⟨dx,h⟩:=h;exact⟨_,_,_,h,.inl ⟨rfl,rfl⟩⟩
 |maybe ty=>obtain⟨dx,b,h,_⟩:=h;exact⟨_,_,_,h,.inr (.inl ⟨rfl,rfl⟩)⟩
 |many n ty=>obtain⟨dx,b,h,_⟩:=h;exact⟨_,_,_,h,.inr (.inr (.inl ⟨rfl,rfl⟩))⟩
 |one_ fs=>obtain⟨dx,l1,l2,ns,bs,h,_⟩:=h;exact⟨_,_,_,h,.inr (.inr (.inr (.inl ⟨rfl,rfl⟩)))⟩
 |named x ty=>obtain⟨dx,b,h,_⟩:=h;exact⟨_,_,_,h,.inr (.inr (.inr (.inr ⟨rfl,rfl⟩)))⟩
 |rec_ fs=>exact h.elim
 |nil=>exact h.elim
 |field x hh ty r=>exact h.elim
def Lv:List Str:=KL++KN++KP++KQ++KR
theorem mS.no{fs:List (Str×V)}(h:mS t C (fs.map (·.1)))(hm:m∉Lv):fs.lookup m=none:=by refine lu λz=>hm ?_;unfold Lv;rcases h with⟨_,e⟩ | ⟨_,e⟩ | ⟨_,e⟩ | ⟨_,e⟩ | ⟨_,e⟩<;>rw[e] at z<;>simp[z]
theorem QM{sp:Sp}(h:Rep t H ty (.sh a))(hm:m∉Lv)(q:sp [.ref a] H Q E):
  ∃C dx fs,H a=some (.ins C dx fs)/\mS t C (fs.map (·.1))/\fs.lookup m=none/\(∃dx fs',H a=some (.ins C dx fs')/\fs'.map (·.1)=fs.map (·.1))/\sp [.ref a] H Q E:=by
 obtain⟨C,dx,fs,e,i⟩:=h.wc;exact⟨C,dx,fs,e,i,i.no hm,⟨dx,fs,e,rfl⟩,q⟩
def kn:Ty->List Str
 | .num _ _ _=>KL
 | .maybe _=>KN
 | .many _ _=>KP
 | .one_ _=>KQ
 | .named _ _=>KR
 |_=> []
theorem Rep.kn{C dx:Addr}{fs:List (Str×V)}(h:Rep t H ty (.sh a))(e:H a=some (.ins C dx fs)):fs.map (·.1)=kn ty:=by
 cases ty with
 |num lo hi al=>obtain⟨dx,h⟩:=h;rw[e] at h;cases h;rfl
 |maybe ty=>obtain⟨dx,b,h,_⟩:=h;rw[e] at h;cases h;rfl
 |many m ty=>obtain⟨dx,b,h,_⟩:=h;rw[e] at h;cases h;rfl
 |one_ fs=>obtain⟨dx,l1,l2,ns,bs,h,_⟩:=h;rw[e] at h;cases h;rfl
 |named x ty=>obtain⟨dx,b,h,_⟩:=h;rw[e] at h;cases h;rfl
 |rec_ fs=>exact h.elim
 |nil=>exact h.elim
 |field x hh ty r=>exact h.elim
theorem dQ(n:kn ty=KL):∃lo hi al,ty= .num lo hi al:=by
 cases ty<;>first | exact⟨_,_,_,rfl⟩ | exact absurd (show KN=KL from n) (by decide+kernel) | exact absurd (show KP=KL from n) (by decide+kernel) | exact absurd (show KQ=KL from n) (by decide+kernel) | exact absurd (show KR=KL from n) (by decide+kernel) | exact absurd (show []=KL from n) (by decide+kernel)
theorem dR(n:kn ty=KN):∃ty',ty= .maybe ty':=by
 cases ty<;>first | exact⟨_,rfl⟩ | exact absurd (show KL=KN from n) (by decide+kernel) | exact absurd (show KP=KN from n) (by decide+kernel) | exact absurd (show KQ=KN from n) (by decide+kernel) | exact absurd (show KR=KN from n) (by decide+kernel) | exact absurd (show []=KN from n) (by decide+kernel)
theorem dS(n:kn ty=KP):∃k ty',ty= .many k ty':=by
 cases ty<;>first | exact⟨_,_,rfl⟩ | exact absurd (show KL=KP from n) (by decide+kernel) | exact absurd (show KN=KP from n) (by decide+kernel) | exact absurd (show KQ=KP from n) (by decide+kernel) | exact absurd (show KR=KP from n) (by decide+kernel) | exact absurd (show []=KP from n) (by decide+kernel)
theorem dU(n:kn ty=KQ):∃r,ty= .one_ r:=by
 cases ty<;>first | exact⟨_,rfl⟩ | exact absurd (show KL=KQ from n) (by decide+kernel) | exact absurd (show KN=KQ from n) (by decide+kernel) | exact absurd (show KP=KQ from n) (by decide+kernel) | exact absurd (show KR=KQ from n) (by decide+kernel) | exact absurd (show []=KQ from n) (by decide+kernel)
theorem dW(n:kn ty=KR):∃x ty',ty= .named x ty':=by
 cases ty<;>first | exact⟨_,_,rfl⟩ | exact absurd (show KL=KR from n) (by decide+kernel) | exact absurd (show KN=KR from n) (by decide+kernel) | exact absurd (show KP=KR from n) (by decide+kernel) | exact absurd (show KQ=KR from n) (by decide+kernel) | exact absurd (show []=KR from n) (by decide+kernel)
theorem Rep.Yr{x:Str}(h:Rep t H ty (.rc a x)):∃fs,ty= .rec_ fs:=by
 cases ty with
 |rec_ fs=>exact⟨_,rfl⟩
 |num lo hi al=>exact h.elim
 |maybe ty=>exact h.elim
 |many m ty=>exact h.elim
 |one_ fs=>exact h.elim
 |named x ty=>exact h.elim
 |nil=>exact h.elim
 |field x hh ty r=>exact h.elim
theorem YG(h:Rep t H ty (.sh a)):1<=Mt.dep ty:=by
 cases ty with
 |rec_ fs=>exact h.elim
 |nil=>exact h.elim
 |field x hh ty r=>exact h.elim
 |num lo hi al=>exact Nat.le_refl _
 |maybe ty=>exact le_add_left 1 _
 |many m ty=>exact le_add_left 1 _
 |one_ fs=>exact le_add_left 1 _
 |named x ty=>exact le_add_left 1 _
end
end Pr
namespace Pr
open PySem PySem.Spec PyProof.Rows L2
open ValayBase (PTok Toks PName Bytes)
open Valaya (Ty Rec)
section
theorem bits_is(h:n<2 ^ 64):(if (Builtin.Int.intBits (n:Int):Int)>1 then((Builtin.Int.intBits (n:Int):Nat):Int) else 1)=(bitsFor (n+1):Nat):=by
 have e:Builtin.Int.intBits (n:Int)=Mt.lg n:=by
  unfold Builtin.Int.intBits Mt.lg;by_cases z:n=0
  ·subst z;rfl
  ·rw[if_neg z,if_neg (by simpa using z)];rfl
 unfold bitsFor;rw[e,Mt.sU h];have:=le_max_left 1 (Mt.lg n);by_cases z:(Mt.lg n:Int)>1
 ·rw[if_pos z,show Nat.max 1 (Mt.lg n)=Mt.lg n from max_eq_right (by lia)]
 ·rw[if_neg z,show Nat.max 1 (Mt.lg n)=1 from max_eq_left (by lia)];rfl
inductive Xb(vs:List V)(H:Hp)(Q:VK)(E:XK):Prop | mk:∀n:Nat,vs=[.int n]->n<2 ^ 64->Q (.int (bitsFor (n+1):Nat)) H->Xb vs H Q E
theorem Xc:FT P w AJ T 1 t.T9 t.UA ["greatest_code"] Xb:=by refine T.Ob.Cr iI ?_;rintro _ A _ s H _ Q E hr ⟨n,rfl,hn,q⟩;refine⟨_,(AH (AO (AZ (bc rfl) rfl T.kR boot_max (AB Aj (AB (vM PySem.F.plainAttrs_int PySem.F.slot_int_bit_length PySem.F.type_int_bit_length sM (pv 0)) AE))))),?_⟩;walk_at "rd";exact⟨rfl,by rw[bits_is hn];exact q⟩
theorem U2(l:List Nat):(l.map λ(n:Nat)=>(n:Int)).sum=(l.sum:Nat):=by
 induction l with
 |nil=>rfl
 |cons x r ih=>rw[map_cons,sum_cons,sum_cons,ih];lia
theorem JN{k:Nat}:∀{zs:List (PName×Nat×Ty)},Mt.wf (Valaya.rowOf zs) k->∀z∈zs,Mt.wf z.2.2 k/\z.1.name.length<=16/\z.2.1<=1000/\1<=countLeaves z.2.2
 |y::zs,h,z,m=>by
  obtain⟨h1,h2,h3,h4,h5⟩:=h;rcases mem_cons.mp m with rfl | m
  ·exact⟨h4,h1,h2,h3⟩
  ·exact JN h5 z m
theorem lz{k:Nat}:∀{fs:Ty},Mt.wf fs k->rowLength fs<=countLeaves fs\/rowLength fs=0
 | .nil,_=> .inr rfl
 | .field x hh ty r,h=>by obtain⟨_,_,h3,_,h5⟩:=h;refine .inl ?_;show rowLength r+1<=countLeaves ty+countLeaves r;rcases lz h5 with z | z<;>lia
 | .num _ _ _,_=> .inr rfl
 | .maybe _,_=> .inr rfl
 | .many _ _,_=> .inr rfl
 | .one_ _,_=> .inr rfl
 | .named _ _,_=> .inr rfl
 | .rec_ _,_=> .inr rfl
theorem Wc{k:Nat}{fs:Ty}(h:Mt.wf fs k)(hc:countLeaves (.rec_ fs)<=24):rowLength fs<=24:=by have hc:countLeaves fs<=24:=hc;rcases lz h with z | z<;>lia
theorem Ys{sp:Sp}{te:TE}{σ:L2.St}(h:Rep t H ty (.sh a))(hm:m∉Lv)(ht:∀R:VK,R (.ref a) H->te σ H R)(q:sp [.ref a] H Q E):dO (mS t) m sp E te mL σ H Q:=by obtain⟨C,dx,fs,e,i⟩:=h.wc;exact ht _ ⟨C,dx,fs,e,i,i.no hm,⟨dx,fs,e,rfl⟩,q⟩
theorem kU:(Str.ofString "leaf_count")∉Lv:=by decide+kernel
theorem U3:(Str.ofString "bound")∉Lv:=by decide+kernel
theorem Uo:(Str.ofString "form")∉Lv:=by decide+kernel
theorem YH:(Str.ofString "grow")∉Lv:=by decide+kernel
inductive BJ(t:Bz)(n:Nat)(vs:List V)(H:Hp)(Q:VK)(E:XK):Prop | mk:∀a ty k,vs=[.ref a]->Rep t H ty (.sh a)->Mt.wf ty k->Mt.dep ty<=n->(∀H',AR H H'->Q (.int (countLeaves ty:Nat)) H')->BJ t n vs H Q E
theorem Dx(h:BJ t 0 vs H Q E):False:=by obtain⟨a,ty,k,_,h1,_,h2,_⟩:=h;have:=YG h1;lia
def MP(P:Program)(w:World)(K:Frag)(mg:Str->Option Value)(AJ:Heap)(t:Bz)(k:Nat)(m:Str)(sp:Sp):Prop:=∀C ns,mS t C ns->yj P w K mg AJ (Wu P w t.BC) k m sp C ns
inductive Eg(t:Bz)(vs:List V)(H:Hp)(Q:VK)(E:XK):Prop | mk:∀a ty x,vs=[.ref a]->Rep t H ty (.rc a x)->Q (.int (countLeaves ty:Nat)) H->Eg t vs H Q E
theorem CJ:FT P w AJ T 1 t.FA t.FC ["self"] (Eg t):=by refine T.Js.Cr R6 ?_;rintro _ A _ s H _ Q E hr ⟨a,ty,x,rfl,h1,q⟩;refine⟨_,(AH (AO (AZ Ak rfl T.B7 PySem.boot_len (AB (AQ (pv 0) rfl) AE)))),?_⟩;walk_at "rd";obtain⟨fs,rfl⟩:=h1.Yr;obtain⟨dx,lf,ll,lr,as,ls,rs,g1,g2,g3,g4,g5,g6,_⟩:=h1;refine⟨_,⟨_,_,_,g1,T.Ao,T.Ap,rfl⟩,ll,rfl,_,.inl (A4.of g3),?_⟩;rw[length_map,g5.1];unfold leavesOf;rw[Mt.Dd];exact q
theorem vq(T:Txt K mg t)(_:MP P w K mg AJ t (2 * n+1) "leaf_count" (BJ t n)):FO P w K mg AJ t (2 * n+3) t.C9 t.DA ["self"] (aM t.A6 KL (BJ t (n+1))):=by refine T.DB.Cr E7 ?_;rintro _ A _ s H _ Q E hr ⟨⟨a',r',dx,fs,e',hp,hn⟩,a,ty,k,rfl,h1,h2,h3,q⟩;cases e';refine⟨_,(AH (AO Aj)),?_⟩;walk_at "rd";obtain⟨lo,hi,al,rfl⟩:=dQ ((h1.kn hp).symm.trans hn);exact q H (AR.refl H)
theorem vt(T:Txt K mg t)(IH:MP P w K mg AJ t (2 * n+1) "leaf_count" (BJ t n)):FO P w K mg AJ t (2 * n+3) t.DO t.DP ["self"] (aM t.BO KN (BJ t (n+1))):=by
 refine T.DV.Cr Fj ?_;rintro _ A _ s H _ Q E hr ⟨⟨a',r',dx,fs,e',hp,hn⟩,a,ty,k,rfl,h1,h2,h3,q⟩;cases e';refine⟨_,(AH (AO (An Ca Aj (Cf (by exact(AQ (pv 0) rfl)) IH (hr.mono (by lia)) AK)))),?_⟩;walk_at "rd";obtain⟨ty,rfl⟩:=dR ((h1.kn hp).symm.trans hn);obtain⟨dx',b,h,hb⟩:=h1;have e:((countLeaves (.maybe ty):Nat):Int)=1+(countLeaves ty:Nat):=by show ((1+countLeaves ty:Nat):Int)=_;lia
 rw[e] at q;exact⟨_,⟨_,_,_,h,T.Be,T.Ck,rfl⟩,b,rfl,QM hb kU ⟨b,ty,k - 1,rfl,hb,h2.2,(by have h3:Mt.dep ty+1<=n+1:=h3;lia),λH' s=>⟨_,rfl,q H' s⟩⟩⟩
theorem vv(T:Txt K mg t)(IH:MP P w K mg AJ t (2 * n+1) "leaf_count" (BJ t n)):FO P w K mg AJ t (2 * n+3) t.Dh t.Di ["self"] (aM t.BS KP (BJ t (n+1))):=by
 refine T.Dm.Cr Gg ?_;rintro _ A _ s H _ Q E hr ⟨⟨a',r',dx,fs,e',hp,hn⟩,a,ty,k,rfl,h1,h2,h3,q⟩;cases e';refine⟨_,(AH (AO (An Yh (AQ (pv 0) rfl) (Cf (by exact(AQ (pv 0) rfl)) IH (hr.mono (by lia)) AK)))),?_⟩;walk_at "rd";obtain⟨m,ty,rfl⟩:=dS ((h1.kn hp).symm.trans hn);obtain⟨dx',b,h,hb⟩:=h1;have e:((countLeaves (.many m ty):Nat):Int)=(m:Int) * (countLeaves ty:Nat):=by show ((m * countLeaves ty:Nat):Int)=_;rw[Int.natCast_mul]
 rw[e] at q;obtain⟨_,_,h8,h4⟩:=h2;exact⟨_,⟨_,_,_,h,T.BE,T.Cv,rfl⟩,_,⟨_,_,_,h,T.BE,T.Cw,rfl⟩,b,rfl,QM hb kU ⟨b,ty,k - 1,rfl,hb,h4,(by have h3:Mt.dep ty+1<=n+1:=h3;lia),λH' s=>⟨_,rfl,_,rfl,.inl ⟨by lia,by lia⟩,q H' s⟩⟩⟩
theorem vw(T:Txt K mg t)(IH:MP P w K mg AJ t (2 * n+1) "leaf_count" (BJ t n)):FO P w K mg AJ t (2 * n+3) t.D8 t.D9 ["self"] (aM t.BV KQ (BJ t (n+1))):=by
 refine T.EC.Cr Dq ?_;rintro _ A _ s H _ Q E hr ⟨⟨a',r',dx,fs,e',hp,hn⟩,a,ty,k,rfl,h1,h2,h3,q⟩;cases e';have nd:=Dq.nd;refine⟨_,(AH (AO (An Ca Aj (AZ (dI rfl) rfl T.kT boot_sum (AB (Jk (own:=[("inner",1)]) rfl nd (Cb (AQ (pv 0) rfl)) (B4 rfl) (λ_ _ _ _ _=>(A8 (i:=1) nd rfl (Or.inl rfl) (.inr rfl))) (λ_ _ _ _ _=>Ct) (λ_ _ _ _ _=>(Cf (by exact(pv 1)) IH (hr.mono (by lia)) AK))) AE))))),?_⟩;walk_at "rd";obtain⟨r,rfl⟩:=dU ((h1.kn hp).symm.trans hn);obtain⟨dx',l1,l2,ns,bs,h,g1,g2,hb⟩:=h1;obtain⟨zs,rfl,rfl,hl,hz⟩:=hb.alts;obtain⟨_,hw1,hw2,hw3⟩:=h2;rw[Mt.Cu] at hw1 hw2;refine⟨_,⟨_,dx',_,h,T.BW,T.CP,rfl⟩,l2,rfl,⟨_,A4.of g2⟩,λD hD=> ?_⟩;refine OS ((zs.map λz=>countLeaves z.2.2).map λ(c:Nat)=>V.int (c:Nat)) (by simp[hl]) (A4.of g2) (by rw[length_map,hl,sizeLine_eq];lia) hD (λi x y H1 Q1 hx hy s1 q1=> ?_) λH2 s2 e2=> ?_
 ·obtain⟨b,hb,rfl⟩:=CV hx;obtain⟨c,hc,rfl⟩:=A5 hy;obtain⟨z,hz1,rfl⟩:=A5 hc;have hR:=(hz i b z hb hz1).mono (KO.of s1);have hd:Mt.dep z.2.2+1<=n+1:=Nat.le_trans (Nat.succ_le_succ (KZ (mem_of_getElem? hz1))) h3;exact Ys hR kU (λR hR=>hR) ⟨b,z.2.2,_,rfl,hR,(JN hw3 z (mem_of_getElem? hz1)).1,by lia,q1⟩
 ·refine⟨D,rfl,(zs.map λz=>countLeaves z.2.2).map λ(c:Nat)=>(c:Int),A4.of (by rw[e2];simp only[map_map];rfl),?_⟩;rw[U2,<-Hu];have e:((countLeaves (.one_ (Valaya.rowOf zs)):Nat):Int)=1+(countLeaves (Valaya.rowOf zs):Nat):=by show ((1+countLeaves (Valaya.rowOf zs):Nat):Int)=_;lia
  rw[<-e];exact q H2 s2
theorem vx(T:Txt K mg t)(_:MP P w K mg AJ t (2 * n+1) "leaf_count" (BJ t n)):FO P w K mg AJ t (2 * n+3) t.DQ t.DR ["self"] (aM t.BP KR (BJ t (n+1))):=by refine T.DW.Cr Fl ?_;rintro _ A _ s H _ Q E hr ⟨⟨a',r',dx,fs,e',hp,hn⟩,a,ty,k,rfl,h1,h2,h3,q⟩;cases e';refine⟨_,(AH (AO (Ad (AQ (pv 0) rfl) T.Ao T.CW (CJ T) (hr.mono (by lia)) (CZ T) .nil AK))),?_⟩;walk_at "rd";obtain⟨x,ty,rfl⟩:=dW ((h1.kn hp).symm.trans hn);obtain⟨dx',b,h,hb⟩:=h1;obtain⟨fs',rfl⟩:=hb.Yr;obtain⟨dy,lf,ll,lr,as,ls,rs,g1,_⟩:=id hb;exact⟨_,⟨_,_,_,h,T.Bf,T.CY,rfl⟩,b,rfl,⟨_,_,g1,rfl⟩,b,_,_,rfl,hb,q H (AR.refl H)⟩
theorem Pl(T:Txt K mg t):∀n,MP P w K mg AJ t (2 * n+1) "leaf_count" (BJ t n)
 | 0=>λC ns h=>by
  rcases h with⟨rfl,rfl⟩ | ⟨rfl,rfl⟩ | ⟨rfl,rfl⟩ | ⟨rfl,rfl⟩ | ⟨rfl,rfl⟩
  ·exact⟨T.A0,_,_,_,T.Fh,T.DB.aK E7 (λvs H Q E z=>Dx z.2),Fi T⟩
  ·exact⟨T.Be,_,_,_,T.GY,T.DV.aK Fj (λvs H Q E z=>Dx z.2),Gd T⟩
  ·exact⟨T.BE,_,_,_,T.Ha,T.Dm.aK Gg (λvs H Q E z=>Dx z.2),Hc T⟩
  ·exact⟨T.BW,_,_,_,T.Hk,T.EC.aK Dq (λvs H Q E z=>Dx z.2),Hm T⟩
  ·exact⟨T.Bf,_,_,_,T.GZ,T.DW.aK Fl (λvs H Q E z=>Dx z.2),Ge T⟩
 |n+1=>λC ns h=>by
  have IH:=Pl T n;rcases h with⟨rfl,rfl⟩ | ⟨rfl,rfl⟩ | ⟨rfl,rfl⟩ | ⟨rfl,rfl⟩ | ⟨rfl,rfl⟩
  ·exact⟨T.A0,_,_,_,T.Fh,vq T IH,Fi T⟩
  ·exact⟨T.Be,_,_,_,T.GY,vt T IH,Gd T⟩
  ·exact⟨T.BE,_,_,_,T.Ha,vv T IH,Hc T⟩
  ·exact⟨T.BW,_,_,_,T.Hk,vw T IH,Hm T⟩
  ·exact⟨T.Bf,_,_,_,T.GZ,vx T IH,Ge T⟩
theorem bK(T:Txt K mg t):MP P w K mg AJ t 85 "leaf_count" (BJ t 42):=Pl T 42
end
section
inductive Cj(t:Bz)(n:Nat)(vs:List V)(H:Hp)(Q:VK)(E:XK):Prop | mk:∀a ty k,vs=[.ref a]->Rep t H ty (.sh a)->Mt.wf ty k->Mt.dep ty<=n->(∀H',AR H H'->Q (.int (sharedBits ty false:Nat)) H')->Cj t n vs H Q E
theorem Kx(h:Cj t 0 vs H Q E):False:=by obtain⟨a,ty,k,_,h1,_,h2,_⟩:=h;have:=YG h1;lia
inductive Vh(t:Bz)(vs:List V)(H:Hp)(Q:VK)(E:XK):Prop | mk:∀(a dx l1 l2:Addr) (bs:List Addr),vs=[.ref a]->H a=some (.ins t.BV dx (WY [.ref l1,.ref l2]))->H l2=some (.lst (bs.map V.ref))->1<=bs.length->bs.length<2 ^ 64->Q (.int (bitsFor bs.length:Nat)) H->Vh t vs H Q E
theorem Hq:FT P w AJ T 2 t.EW t.EX ["self"] (Vh t):=by
 refine T.JB.Cr P4 ?_;rintro _ A _ s H _ Q E hr ⟨a,dx,l1,l2,bs,rfl,h1,h2,h3,h4,q⟩;refine⟨_,(AH (AO (AV (Xc T) hr.lt rfl T.ZR T.Ob.kp (ZS T) .nil AK (AB (An D5 (AZ Ak rfl T.B7 PySem.boot_len (AB (AQ (pv 0) rfl) AE)) Aj) AE)))),?_⟩;walk_at "rd";refine⟨_,⟨_,_,_,h1,T.BW,T.CP,rfl⟩,l2,rfl,_,.inl (A4.of h2),bs.length - 1,?_,by lia,?_⟩
 ·rw[length_map];show [V.int _]=[V.int _];rw[show ((bs.length - 1:Nat):Int)=(bs.length:Int) - 1 by lia]
 ·rw[show bs.length - 1+1=bs.length by lia];exact q
theorem pV(T:Txt K mg t)(_:MP P w K mg AJ t (2 * n+2) "bound" (Cj t n)):FO P w K mg AJ t (2 * (n+1)+2) t.E8 t.E9 ["self"] (aM t.A6 KL (Cj t (n+1))):=by
 refine T.FL.Cr JH ?_;rintro _ A _ s H _ Q E hr ⟨⟨a',r',dx,fs,e',hp,hn⟩,a,ty,k,rfl,h1,h2,h3,q⟩;cases e';refine⟨_,(AH (AO (AV (Xc T) (hr.mono (by lia)) rfl T.ZR T.Ob.kp (ZS T) .nil AK (AB (An D5 (AQ (pv 0) rfl) (AQ (pv 0) rfl)) AE)))),?_⟩;walk_at "rd";obtain⟨lo,hi,al,rfl⟩:=dQ ((h1.kn hp).symm.trans hn);obtain⟨dx',h⟩:=h1;obtain⟨_,w1,w2,w3,_⟩:=h2;refine⟨_,⟨_,_,_,h,T.A0,T.GL,rfl⟩,_,⟨_,_,_,h,T.A0,T.FP,rfl⟩,_,rfl,_,rfl,(hi - lo).toNat,?_,by lia,?_⟩
 ·show [V.int _]=[V.int _];rw[show (((hi - lo).toNat:Nat):Int)=hi - lo by lia]
 ·rw[show (hi - lo).toNat+1=(hi - lo+1).toNat by lia];exact q H (AR.refl H)
theorem vy(T:Txt K mg t)(IH:MP P w K mg AJ t (2 * n+2) "bound" (Cj t n)):FO P w K mg AJ t (2 * (n+1)+2) t.F7 t.F8 ["self"] (aM t.BO KN (Cj t (n+1))):=by
 refine T.GJ.Cr J0 ?_;rintro _ A _ s H _ Q E hr ⟨⟨a',r',dx,fs,e',hp,hn⟩,a,ty,k,rfl,h1,h2,h3,q⟩;cases e';refine⟨_,(AH (AO (An Ca Aj (Cf (by exact(AQ (pv 0) rfl)) IH (hr.mono (by lia)) AK)))),?_⟩;walk_at "rd";obtain⟨ty,rfl⟩:=dR ((h1.kn hp).symm.trans hn);obtain⟨dx',b,h,hb⟩:=h1;have e:((sharedBits (.maybe ty) false:Nat):Int)=1+(sharedBits ty false:Nat):=by show ((1+sharedBits ty false:Nat):Int)=_;lia
 rw[e] at q;exact⟨_,⟨_,_,_,h,T.Be,T.Ck,rfl⟩,b,rfl,QM hb U3 ⟨b,ty,k - 1,rfl,hb,h2.2,(by have h3:Mt.dep ty+1<=n+1:=h3;lia),λH' s=>⟨_,rfl,q H' s⟩⟩⟩
theorem vz(T:Txt K mg t)(IH:MP P w K mg AJ t (2 * n+2) "bound" (Cj t n)):FO P w K mg AJ t (2 * (n+1)+2) t.G9 t.HA ["self"] (aM t.BS KP (Cj t (n+1))):=by
 refine T.HP.Cr Lh ?_;rintro _ A _ s H _ Q E hr ⟨⟨a',r',dx,fs,e',hp,hn⟩,a,ty,k,rfl,h1,h2,h3,q⟩;cases e';refine⟨_,(AH (AO (An Yh (AQ (pv 0) rfl) (Cf (by exact(AQ (pv 0) rfl)) IH (hr.mono (by lia)) AK)))),?_⟩;walk_at "rd";obtain⟨m,ty,rfl⟩:=dS ((h1.kn hp).symm.trans hn);obtain⟨dx',b,h,hb⟩:=h1;have e:((sharedBits (.many m ty) false:Nat):Int)=(m:Int) * (sharedBits ty false:Nat):=by show ((m * sharedBits ty false:Nat):Int)=_;rw[Int.natCast_mul]
 rw[e] at q;obtain⟨_,_,h8,h4⟩:=h2;exact⟨_,⟨_,_,_,h,T.BE,T.Cv,rfl⟩,_,⟨_,_,_,h,T.BE,T.Cw,rfl⟩,b,rfl,QM hb U3 ⟨b,ty,k - 1,rfl,hb,h4,(by have h3:Mt.dep ty+1<=n+1:=h3;lia),λH' s=>⟨_,rfl,_,rfl,.inl ⟨by lia,by lia⟩,q H' s⟩⟩⟩
theorem v9(T:Txt K mg t)(IH:MP P w K mg AJ t (2 * n+2) "bound" (Cj t n)):FO P w K mg AJ t (2 * (n+1)+2) t.IG t.II ["self"] (aM t.BV KQ (Cj t (n+1))):=by
 refine T.IQ.Cr HW ?_;rintro _ A _ s H _ Q E hr ⟨⟨a',r',dx,fs,e',hp,hn⟩,a,ty,k,rfl,h1,h2,h3,q⟩;cases e';have nd:=HW.nd;refine⟨_,(AH (AO (An Ca (Ad (pv 0) T.BW T.JA (Hq T) (hr.mono (by lia)) (JG T) .nil AK) (AZ (o5 rfl) rfl T.kR boot_max (AB (Jk (own:=[("inner",1)]) rfl nd (Cb (AQ (pv 0) rfl)) (B4 rfl) (λ_ _ _ _ _=>(A8 (i:=1) nd rfl (Or.inl rfl) (.inr rfl))) (λ_ _ _ _ _=>Ct) (λ_ _ _ _ _=>(Cf (by exact(pv 1)) IH (hr.mono (by lia)) AK))) AE))))),?_⟩;walk_at "rd";obtain⟨r,rfl⟩:=dU ((h1.kn hp).symm.trans hn);obtain⟨dx',l1,l2,ns,bs,h,g1,g2,hb⟩:=h1;obtain⟨zs,rfl,rfl,hl,hz⟩:=hb.alts;obtain⟨_,hw1,hw2,hw3⟩:=h2;rw[Mt.Cu] at hw1 hw2;refine⟨⟨_,_,h,rfl⟩,a',dx',l1,l2,bs,rfl,h,g2,by lia,by lia,?_⟩;refine⟨_,⟨_,dx',_,h,T.BW,T.CP,rfl⟩,l2,rfl,⟨_,A4.of g2⟩,λD hD=> ?_⟩;refine OS ((zs.map λz=>sharedBits z.2.2 false).map λ(c:Nat)=>V.int (c:Nat)) (by simp[hl]) (A4.of g2) (by rw[length_map,hl,sizeLine_eq];lia) hD (λi x y H1 Q1 hx hy s1 q1=> ?_) λH2 s2 e2=> ?_
 ·obtain⟨b,hb,rfl⟩:=CV hx;obtain⟨c,hc,rfl⟩:=A5 hy;obtain⟨z,hz1,rfl⟩:=A5 hc;have hR:=(hz i b z hb hz1).mono (KO.of s1);have hd:Mt.dep z.2.2+1<=n+1:=Nat.le_trans (Nat.succ_le_succ (KZ (mem_of_getElem? hz1))) h3;exact Ys hR U3 (λR hR=>hR) ⟨b,z.2.2,_,rfl,hR,(JN hw3 z (mem_of_getElem? hz1)).1,by lia,q1⟩
 ·refine⟨D,rfl,(zs.map λz=>sharedBits z.2.2 false).map λ(c:Nat)=>(c:Int),A4.of (by rw[e2];simp only[map_map];rfl),by simp;lia,λm hm hle=> ?_⟩;obtain⟨s1,s3⟩:=Zb zs;have em:m=(sharedBits (Valaya.rowOf zs) true:Nat):=by
   obtain⟨c,hc,rfl⟩:=mem_map.mp hm;obtain⟨z,hz1,rfl⟩:=mem_map.mp hc;rcases s3 with z0 | ⟨y,hy,ey⟩
   ·rw[z0] at hw1;simp at hw1
   ·have:=hle ((sharedBits y.2.2 false:Nat):Int) (mem_map.mpr ⟨_,mem_map.mpr ⟨y,hy,rfl⟩,rfl⟩);have:=s1 z hz1;rw[ey] at *;lia
  have e:((sharedBits (.one_ (Valaya.rowOf zs)) false:Nat):Int)=(bitsFor bs.length:Nat)+(sharedBits (Valaya.rowOf zs) true:Nat):=by show ((bitsFor (rowLength (Valaya.rowOf zs))+sharedBits (Valaya.rowOf zs) true:Nat):Int)=_;rw[Mt.Cu,hl];lia
  refine⟨_,rfl,?_⟩;rw[em,<-e];exact q H2 s2
inductive Ft(t:Bz)(n:Nat)(vs:List V)(H:Hp)(Q:VK)(E:XK):Prop | mk:∀a fs x,vs=[.ref a]->Rep t H (.rec_ fs) (.rc a x)->Mt.wf (.rec_ fs) 6->Mt.dep fs<=n->countLeaves (.rec_ fs)<=24->(∀H',AR H H'->Q (.int (sharedBits (.rec_ fs) false:Nat)) H')->Ft t n vs H Q E
theorem MX(T:Txt K mg t)(IH:MP P w K mg AJ t (2 * n+2) "bound" (Cj t n)):FO P w K mg AJ t (2 * n+3) t.Gw t.Gx ["self"] (Ft t n):=by
 refine T.RP.Cr Pf ?_;rintro _ A _ s H _ Q E hr ⟨a,fs,x,rfl,h1,h2,h3,h4,q⟩;have nd:=Pf.nd;refine⟨_,(AH (AO (AZ (dI rfl) rfl T.kT boot_sum (AB (Jk (own:=[("field",1)]) rfl nd (Cb (AQ (pv 0) rfl)) (B4 rfl) (λ_ _ _ _ _=>(A8 (i:=1) nd rfl (Or.inl rfl) (.inr rfl))) (λ_ _ _ _ _=>Ct) (λ_ _ _ _ _=>(Cf (by exact(OV (K:=K) (pv 1) rfl rfl)) IH (hr.mono (by lia)) AK))) AE)))),?_⟩;walk_at "rd";obtain⟨dx,lf,ll,lr,as,ls,rs,g1,g2,g3,g4,g5,g6,hb⟩:=h1;obtain⟨zs,rfl,hl,hz⟩:=hb.fields;have h4:=Wc h2.2 h4;rw[Mt.Cu] at h4;refine⟨_,⟨_,dx,_,g1,T.Ao,T.Fs,rfl⟩,lf,rfl,⟨_,A4.of g2⟩,λD hD=> ?_⟩;refine OS ((zs.map λz=>sharedBits z.2.2 false).map λ(c:Nat)=>V.int (c:Nat)) (by simp[hl]) (A4.of g2) (by rw[length_map,hl,sizeLine_eq];lia) hD (λi x y H1 Q1 hx hy s1 q1=> ?_) λH2 s2 e2=> ?_
 ·obtain⟨b,hb,rfl⟩:=CV hx;obtain⟨c,hc,rfl⟩:=A5 hy;obtain⟨z,hz1,rfl⟩:=A5 hc;obtain⟨dy,b2,e3,hR⟩:=(hz i b z hb hz1).mono (KO.of s1);have hd:Mt.dep z.2.2<=n:=Nat.le_trans (KZ (mem_of_getElem? hz1)) h3;exact Ys hR U3 (λR hR=>⟨_,⟨_,_,_,e3,T.En,T.D3,rfl⟩,hR⟩) ⟨b2,z.2.2,_,rfl,hR,(JN h2.2 z (mem_of_getElem? hz1)).1,by lia,q1⟩
 ·refine⟨D,rfl,(zs.map λz=>sharedBits z.2.2 false).map λ(c:Nat)=>(c:Int),A4.of (by rw[e2];simp only[map_map];rfl),?_⟩;rw[U2,<-Za];exact q H2 s2
theorem wA(T:Txt K mg t)(IH:MP P w K mg AJ t (2 * n+2) "bound" (Cj t n)):FO P w K mg AJ t (2 * (n+1)+2) t.F9 t.GA ["self"] (aM t.BP KR (Cj t (n+1))):=by refine T.GK.Cr KA ?_;rintro _ A _ s H _ Q E hr ⟨⟨a',r',dx,fs,e',hp,hn⟩,a,ty,k,rfl,h1,h2,h3,q⟩;cases e';refine⟨_,(AH (AO (Ad (AQ (pv 0) rfl) T.Ao T.DK (MX T IH) (hr.mono (by lia)) (DM T) .nil AK))),?_⟩;walk_at "rd";obtain⟨x,ty,rfl⟩:=dW ((h1.kn hp).symm.trans hn);obtain⟨dx',b,h,hb⟩:=h1;obtain⟨fs',rfl⟩:=hb.Yr;obtain⟨dy,lf,ll,lr,as,ls,rs,g1,_⟩:=id hb;exact⟨_,⟨_,_,_,h,T.Bf,T.CY,rfl⟩,b,rfl,⟨_,_,g1,rfl⟩,b,_,_,rfl,hb,h2.2.2.2,(by have h3:Mt.dep fs'+1+1<=n+1:=h3;lia),h2.2.2.1.2,q⟩
theorem UJ(T:Txt K mg t):∀n,MP P w K mg AJ t (2 * n+2) "bound" (Cj t n)
 | 0=>λC ns h=>by
  rcases h with⟨rfl,rfl⟩ | ⟨rfl,rfl⟩ | ⟨rfl,rfl⟩ | ⟨rfl,rfl⟩ | ⟨rfl,rfl⟩
  ·exact⟨T.A0,_,_,_,T.FJ,T.FL.aK JH (λvs H Q E z=>Kx z.2),FR T⟩
  ·exact⟨T.Be,_,_,_,T.LV,T.GJ.aK J0 (λvs H Q E z=>Kx z.2),Le T⟩
  ·exact⟨T.BE,_,_,_,T.ME,T.HP.aK Lh (λvs H Q E z=>Kx z.2),MQ T⟩
  ·exact⟨T.BW,_,_,_,T.N7,T.IQ.aK HW (λvs H Q E z=>Kx z.2),OF T⟩
  ·exact⟨T.Bf,_,_,_,T.LW,T.GK.aK KA (λvs H Q E z=>Kx z.2),Lf T⟩
 |n+1=>λC ns h=>by
  have IH:=UJ T n;rcases h with⟨rfl,rfl⟩ | ⟨rfl,rfl⟩ | ⟨rfl,rfl⟩ | ⟨rfl,rfl⟩ | ⟨rfl,rfl⟩
  ·exact⟨T.A0,_,_,_,T.FJ,pV T IH,FR T⟩
  ·exact⟨T.Be,_,_,_,T.LV,vy T IH,Le T⟩
  ·exact⟨T.BE,_,_,_,T.ME,vz T IH,MQ T⟩
  ·exact⟨T.BW,_,_,_,T.N7,v9 T IH,OF T⟩
  ·exact⟨T.Bf,_,_,_,T.LW,wA T IH,Lf T⟩
theorem qt(T:Txt K mg t):MP P w K mg AJ t 86 "bound" (Cj t 42):=UJ T 42
theorem Dy:FT P w AJ T 87 t.Gw t.Gx ["self"] (Ft t 42):=MX T (n:=42) (qt T)
end
end Pr
namespace Pr
open PySem PySem.Spec PyProof.Rows L2
open ValayBase (PTok Toks PName Bytes word)
open Valaya (Ty Rec)
theorem Nj(b:Bytes):TL.tl (strOf b)=b.map λc=>c.toNat:=rfl
theorem A2(a b:Bytes):strOf (a++b)=strOf a++strOf b:=by refine TL.Tz ?_;rw[TL.Kd,Nj,Nj,Nj,map_append]
theorem As(a:Bytes):(strOf a).length=a.length:=by rw[TL.Yl,Nj,length_map]
theorem qu(h:48<=c/\c<=57):(UInt8.ofNat c).toNat=c:=by rw[UInt8.toNat_ofNat'];exact Nat.mod_eq_of_lt (by lia)
theorem Wd(n:Nat):(showNat n).map (λc=>c.toNat)=TL.Pt n:=by unfold showNat TL.Pt;rw[map_map];refine map_congr_left λc hc=> ?_;have:=TL.W2 n c.toNat (mem_map.mpr ⟨c,hc,rfl⟩);exact qu this
theorem sy(n:Nat):Str.ofString (toString ((n:Nat):Int))=strOf (showNat n):=by refine TL.Tz ?_;rw[TL.Me,Nj,Wd]
theorem str_int(i:Int):Str.ofString (toString i)=strOf (showInt i):=by
 cases i with
 |ofNat n=>show Str.ofString (toString ((n:Nat):Int))=_;rw[sy];rfl
 |negSucc n=>have e:toString (Int.negSucc n)= "-"++toString (((n+1:Nat)):Int):=rfl;refine TL.Tz ?_;rw[e,TL.W0,String.toList_append,map_append,<-TL.W0 (toString ((n+1:Nat):Int)),TL.Me,Nj];unfold showInt;rw[if_pos (by lia),map_cons,show (Int.negSucc n).natAbs=n+1 from rfl,Wd];rfl
theorem YI{k:Nat}(hk:0<k)(h:n<10 ^ k):(showNat n).length<=k:=by have:=TL.f6 hk h;rw[<-Wd,length_map] at this;exact this
theorem ET{i:Int}(h: -1000000<=i/\i<=1000000):(showInt i).length<=8:=by
 unfold showInt;have:=YI (n:=i.natAbs) (k:=7) (by decide) (by lia);split
 ·rw[length_cons];lia
 ·lia
def Bd(k:Nat):Nat:=32 * 4 ^ k - 32
theorem uv(k:Nat):Bd (k+1)=4 * Bd k+96:=by unfold Bd;have:1<=4 ^ k:=Nat.one_le_pow _ _ (by decide);rw[pow_succ];lia
theorem oZ{k:Nat}(h:j<=k):Bd j<=Bd k:=by
 unfold Bd;have:4 ^ j<=4 ^ k:=Nat.pow_le_pow_right (by decide) h
 lia
def iW:Ty->Bool->Prop
 | .num _ _ _,b=>b=false
 | .maybe t,b=>b=false/\iW t false
 | .many _ t,b=>b=false/\iW t false
 | .one_ fs,b=>b=false/\iW fs true
 | .named _ _,b=>b=false
 | .nil,b=>b=true
 | .field _ _ t r,b=>b=true/\iW t false/\iW r true
 | .rec_ _,_=>False
def zf:Md->Bool
 | .sh _=>false
 | .alt _ _=>true
 | .fld _=>true
 | .rc _ _=>false
theorem Rep.iW{t:Bz}{H:Hp}:∀{ty:Ty} {m:Md},Rep t H ty m->(∃a x,m= .rc a x)\/iW ty (zf m):=by
 intro ty;induction ty with
 |num lo hi al=>intro m h;cases m<;>first | exact h.elim | exact .inr rfl
 |maybe ty ih=>intro m h;cases m<;>first | exact h.elim | (obtain⟨_,b,_,h⟩:=h;exact .inr ⟨rfl,(ih h).resolve_left (by rintro⟨_,_,z⟩;cases z)⟩)
 |many n ty ih=>intro m h;cases m<;>first | exact h.elim | (obtain⟨_,b,_,h⟩:=h;exact .inr ⟨rfl,(ih h).resolve_left (by rintro⟨_,_,z⟩;cases z)⟩)
 |one_ fs ih=>intro m h;cases m<;>first | exact h.elim | (obtain⟨_,_,_,_,_,_,_,_,h⟩:=h;exact .inr ⟨rfl,(ih h).resolve_left (by rintro⟨_,_,z⟩;cases z)⟩)
 |named x ty ih=>intro m h;cases m<;>first | exact h.elim | exact .inr rfl
 |rec_ fs ih=>intro m h;cases m<;>first | exact h.elim | exact .inl ⟨_,_,rfl⟩
 |nil=>intro m h;cases m<;>first | exact h.elim | exact .inr rfl
 |field x hh ty r ih1 ih2=>
  intro m h;cases m with
  |alt ns bs=>obtain⟨_,_,_,_,_,h1,h2⟩:=h;exact .inr ⟨rfl,(ih1 h1).resolve_left (by rintro⟨_,_,z⟩;cases z),(ih2 h2).resolve_left (by rintro⟨_,_,z⟩;cases z)⟩
  |fld as=>obtain⟨_,_,_,_,_,_,h1,h2⟩:=h;exact .inr ⟨rfl,(ih1 h1).resolve_left (by rintro⟨_,_,z⟩;cases z),(ih2 h2).resolve_left (by rintro⟨_,_,z⟩;cases z)⟩
  |sh a=>exact h.elim
  |rc a x=>exact h.elim
theorem Rep.oF(h:Rep t H ty (.sh a)):Pr.iW ty false:=h.iW.resolve_left (by rintro⟨_,_,z⟩;cases z)
theorem gX{a:Nat}(h:Mt.Ki a):(showNat a).length<=2:=by unfold Mt.Ki at h;exact YI (by decide) (by lia)
def oa(r:Ty):Bytes:=match r with
 | .nil=> []
 |r=>word ", "++showTy r
theorem qv(r:Ty):(oa r).length<=2+(showTy r).length:=by
 unfold oa;split
 ·exact zero_le _
 ·rw[length_append];exact Nat.le_refl _
theorem j0{x:PName}{h:Nat}{t r:Ty}:showTy (.field x h t r)=x.name++(word " : "++(showTy t++oa r)):=by cases r<;>rfl
theorem l8:∀(ty:Ty) (k:Nat),Mt.wf ty k->(iW ty false->(showTy ty).length<=Bd k)/\(iW ty true->(showTy ty).length<=rowLength ty * (21+Bd k)):=by
 intro ty;induction ty with
 |num lo hi al=>
  intro k w;refine⟨λ_=> ?_,λz=>by cases z⟩;obtain⟨w1,w2,w3,w4,w5⟩:=w;have h1:=ET (i:=lo) ⟨w3,by lia⟩;have h2:=ET (i:=hi) ⟨by lia,w4⟩;have h3:=gX w5;have h4:Bd 1<=Bd k:=oZ w1;have h5:Bd 1=96:=rfl;show (word "from "++(showInt lo++(word " to "++(showInt hi++(if al=1 then [] else word " at "++showNat al))))).length<=Bd k;rw[length_append,length_append,length_append,length_append];have e1:(word "from ").length=5:=rfl;have e2:(word " to ").length=4:=rfl;have e3:(if al=1 then [] else word " at "++showNat al).length<=6:=by
   split
   ·exact zero_le _
   ·rw[length_append];have:(word " at ").length=4:=rfl;lia
  lia
 |maybe t ih=>
  intro k w;refine⟨λz=> ?_,λz=>by cases z.1⟩;obtain⟨w1,w2⟩:=w;obtain⟨k,rfl⟩:∃j,k=j+1:=⟨k - 1,by lia⟩;have h1:=(ih k w2).1 z.2;show (word "maybe "++showTy t).length<=Bd (k+1);rw[length_append,uv];have e1:(word "maybe ").length=6:=rfl
  lia
 |many m t ih=>
  intro k w;refine⟨λz=> ?_,λz=>by cases z.1⟩;obtain⟨w1,w3,w4,w2⟩:=w;obtain⟨k,rfl⟩:∃j,k=j+1:=⟨k - 1,by lia⟩;have h1:=(ih k w2).1 z.2;show (word "many "++(showNat m++(word " "++showTy t))).length<=Bd (k+1);rw[length_append,length_append,length_append,uv];have e1:(word "many ").length=5:=rfl;have e2:(word " ").length=1:=rfl;have e3:=YI (n:=m) (k:=1) (by decide) (by lia)
  lia
 |rec_ fs ih=>intro k w;exact⟨λz=>z.elim,λz=>z.elim⟩
 |named x t ih=>
  intro k w;refine⟨λ_=> ?_,λz=>by cases z⟩;obtain⟨w1,w2,_⟩:=w;have h4:Bd 1<=Bd k:=oZ w1;have h5:Bd 1=96:=rfl;show x.length<=Bd k
  lia
 |one_ fs ih=>
  intro k w;refine⟨λz=> ?_,λz=>by cases z.1⟩;obtain⟨w1,w3,w4,w2⟩:=w;obtain⟨k,rfl⟩:∃j,k=j+1:=⟨k - 1,by lia⟩;have h1:=(ih k w2).2 z.2;show (word "one { "++(showTy fs++word " }")).length<=Bd (k+1);rw[length_append,length_append,uv];have e1:(word "one { ").length=6:=rfl;have e2:(word " }").length=2:=rfl;have h3:rowLength fs * (21+Bd k)<=4 * (21+Bd k):=mul_le_mul_right _ w4
  lia
 |nil=>intro k w;exact⟨λz=>(by cases z),λ_=>zero_le _⟩
 |field x h t r ih1 ih2=>
  intro k w;refine⟨λz=>(by cases z.1),λz=> ?_⟩;obtain⟨w1,w2,w3,w4,w5⟩:=w;have h1:=(ih1 _ w4).1 z.2.1;have h2:=(ih2 _ w5).2 z.2.2;show _<=(rowLength r+1) * (21+Bd k);rw[j0,length_append,length_append,length_append,add_mul,one_mul];have e1:(word " : ").length=3:=rfl;have e3:=qv r
  lia
theorem zV{k:Nat}(h:k<=6):Bd k<=131040:=Nat.le_trans (oZ h) (by decide)
theorem fZ{k:Nat}(w:Mt.wf ty k)(hk:k<=6)(s:iW ty false):(showTy ty).length<=131040:=Nat.le_trans ((l8 ty k w).1 s) (zV hk)
theorem QV(h:n<=1000000):n.log2<1920:=by
 by_cases z:n=0
 ·subst z;decide
 ·exact lt_of_lt_of_le ((log2_lt z).mpr (Nat.lt_of_le_of_lt h (by decide:1000000<2 ^ 20))) (by decide)
theorem wB:Str.ofString "from "=strOf (word "from "):=by decide+kernel
theorem zC:Str.ofString " to "=strOf (word " to "):=by decide+kernel
theorem zD:Str.ofString " at "=strOf (word " at "):=by decide+kernel
theorem l9:Str.ofString "maybe "=strOf (word "maybe "):=by decide+kernel
theorem wC:Str.ofString "many "=strOf (word "many "):=by decide+kernel
theorem zE:Str.ofString " "=strOf (word " "):=by decide+kernel
theorem Uc:Str.ofString " : "=strOf (word " : "):=by decide+kernel
theorem og:Str.ofString ", "=strOf (word ", "):=by decide+kernel
theorem oh:Str.ofString "one { "=strOf (word "one { "):=by decide+kernel
theorem uW:Str.ofString " }"=strOf (word " }"):=by decide+kernel
theorem yJ:Str.ofString " hot "=strOf (word " hot "):=by decide+kernel
theorem uw:Str.ofString " ;\n"=strOf (word " ;"++ [10]):=by decide+kernel
theorem fb:Str.ofString "record "=strOf (word "record "):=by decide+kernel
theorem rY:Str.ofString " {\n"=strOf (word " {"++ [10]):=by decide+kernel
theorem uX:Str.ofString "}\n"=strOf (word "}"++ [10]):=by decide+kernel
theorem qw:∀zs:List (PName×Nat×Ty),Txt.join (strOf (word ", ")) (zs.map λz=>strOf (z.1.name++(word " : "++showTy z.2.2)))=strOf (showTy (Valaya.rowOf zs)):=by
 intro zs;refine TL.Tz ?_;rw[TL.join_eq,TL.dg];induction zs with
 |nil=>rfl
 |cons z zs ih=>
  cases zs with
  |nil=>show TL.tl (strOf (z.1.name++(word " : "++showTy z.2.2)))=TL.tl (strOf (z.1.name++(word " : "++(showTy z.2.2++ []))));rw[append_nil]
  |cons y zs=>
   have e:showTy (Valaya.rowOf (z::y::zs))=(z.1.name++(word " : "++showTy z.2.2))++(word ", "++showTy (Valaya.rowOf (y::zs))):=by show z.1.name++(word " : "++(showTy z.2.2++(word ", "++showTy (Valaya.rowOf (y::zs)))))=_;simp only[append_assoc]
   rw[e,A2,A2 (word ", "),TL.Kd,TL.Kd,<-ih];rfl
section
inductive EH(t:Bz)(n:Nat)(vs:List V)(H:Hp)(Q:VK)(E:XK):Prop | mk:∀a ty k,vs=[.ref a]->Rep t H ty (.sh a)->Mt.wf ty k->k<=6->Mt.dep ty<=n->(∀H',AR H H'->Q (.str (strOf (showTy ty))) H')->EH t n vs H Q E
theorem Nw(h:EH t 0 vs H Q E):False:=by obtain⟨a,ty,k,_,h1,_,_,h2,_⟩:=h;have:=YG h1;lia
theorem wD(T:Txt K mg t)(_:MP P w K mg AJ t (n+1) "form" (EH t n)):FO P w K mg AJ t (n+2) t.F5 t.F6 ["self"] (aM t.A6 KL (EH t (n+1))):=by
 refine T.GI.Cr FU ?_;rintro _ A _ s H _ Q E hr ⟨⟨a',r',dx,fs,e',hp,hn⟩,a,ty,k,rfl,h1,h2,hk,h3,q⟩;cases e';have nd:=FU.nd;refine⟨_,(AD (ps_sl 1 nd (An A1 (An A1 (An A1 Ah (CM Eu rfl T.bY boot_str (AB (AQ (pv 0) rfl) AE))) Ah) (CM Eu rfl T.bY boot_str (AB (AQ (pv 0) rfl) AE))))
   (AD (Ay (AU FV (AQ (pv 0) rfl) Aj (AY _)) (AH (Tx (i:=1) nd rfl (Or.inl rfl) (An A1 Ah (CM Eu rfl T.bY boot_str (AB (AQ (pv 0) rfl) AE))) sN)) AX)
   (AH (AO (pv 1))))),?_⟩
 walk_at "rd";obtain⟨lo,hi,al,rfl⟩:=dQ ((h1.kn hp).symm.trans hn);obtain⟨dx',h⟩:=h1;obtain⟨w0,w1,w2,w3,w4⟩:=h2;have n1:=ET (i:=lo) ⟨w2,by lia⟩;have n2:=ET (i:=hi) ⟨by lia,w3⟩;have n3:=gX w4;have al0:al<=32:=by unfold Mt.Ki at w4;lia
 have n4:(showInt (al:Int)).length<=8:=ET ⟨by lia,by lia⟩;have l1:(word "from ").length=5:=rfl;have l2:(word " to ").length=4:=rfl;have l3:(word " at ").length=4:=rfl;simp only[wB,zC,zD,str_int,<-A2,As,length_append,sizeLine_eq];refine⟨_,⟨_,_,_,h,T.A0,T.FP,rfl⟩,_,rfl,QV (by lia),by lia,by lia,_,⟨_,_,_,h,T.A0,T.GL,rfl⟩,_,rfl,QV (by lia),by lia,_,⟨_,_,_,h,T.A0,T.DG,rfl⟩,rfl,Az (λz=> ?_) λz=> ?_⟩
 ·have z:al≠1:=λe=>z (by rw[e];rfl);refine⟨_,⟨_,_,_,h,T.A0,T.DG,rfl⟩,_,rfl,QV (by lia),by lia,by lia,?_⟩;have e:showTy (.num lo hi al)=word "from "++showInt lo++word " to "++showInt hi++(word " at "++showInt (al:Int)):=by
   show word "from "++(showInt lo++(word " to "++(showInt hi++(if al=1 then [] else word " at "++showNat al))))=_;rw[if_neg z,show showInt (al:Int)=showNat al from rfl];simp only[append_assoc]
  rw[<-e];exact q H (AR.refl H)
 ·have z:al=1:=by have:=V.int.inj (Classical.not_not.mp z);lia
  have e:showTy (.num lo hi al)=word "from "++showInt lo++word " to "++showInt hi:=by show word "from "++(showInt lo++(word " to "++(showInt hi++(if al=1 then [] else word " at "++showNat al))))=_;rw[if_pos z];simp only[append_assoc,append_nil]
  rw[<-e];exact q H (AR.refl H)
theorem wF(T:Txt K mg t)(IH:MP P w K mg AJ t (n+1) "form" (EH t n)):FO P w K mg AJ t (n+2) t.G7 t.G8 ["self"] (aM t.BO KN (EH t (n+1))):=by
 refine T.HN.Cr Lg ?_;rintro _ A _ s H _ Q E hr ⟨⟨a',r',dx,fs,e',hp,hn⟩,a,ty,k,rfl,h1,h2,hk,h3,q⟩;cases e';refine⟨_,(AH (AO (An A1 Ah (Cf (by exact(AQ (pv 0) rfl)) IH (hr.mono (by lia)) AK)))),?_⟩;walk_at "rd";obtain⟨ty,rfl⟩:=dR ((h1.kn hp).symm.trans hn);obtain⟨dx',b,h,hb⟩:=h1;have n1:=fZ h2.2 (by lia) hb.oF;have l1:(word "maybe ").length=6:=rfl;refine⟨_,⟨_,_,_,h,T.Be,T.Ck,rfl⟩,b,rfl,QM hb Uo ⟨b,ty,k - 1,rfl,hb,h2.2,by lia,(by have h3:Mt.dep ty+1<=n+1:=h3;lia),λH' s=>⟨_,rfl,?_,?_⟩⟩⟩
 ·rw[l9,As,As,sizeLine_eq];lia
 ·rw[l9,<-A2];exact q H' s
theorem wG(T:Txt K mg t)(IH:MP P w K mg AJ t (n+1) "form" (EH t n)):FO P w K mg AJ t (n+2) t.IE t.IF ["self"] (aM t.BS KP (EH t (n+1))):=by
 refine T.IP.Cr MV ?_;rintro _ A _ s H _ Q E hr ⟨⟨a',r',dx,fs,e',hp,hn⟩,a,ty,k,rfl,h1,h2,hk,h3,q⟩;cases e';refine⟨_,(AH (AO (An A1 (An A1 (An A1 Ah (CM Eu rfl T.bY boot_str (AB (AQ (pv 0) rfl) AE))) Ah) (Cf (by exact(AQ (pv 0) rfl)) IH (hr.mono (by lia)) AK)))),?_⟩;walk_at "rd";obtain⟨m,ty,rfl⟩:=dS ((h1.kn hp).symm.trans hn);obtain⟨dx',b,h,hb⟩:=h1;obtain⟨w0,w1,w2,w3⟩:=h2;have n1:=fZ w3 (by lia) hb.oF;have n2:(showInt (m:Int)).length<=8:=ET ⟨by lia,by lia⟩;have l1:(word "many ").length=5:=rfl;have l2:(word " ").length=1:=rfl;simp only[wC,zE,str_int,<-A2,As,length_append,sizeLine_eq];refine⟨_,⟨_,_,_,h,T.BE,T.Cv,rfl⟩,_,rfl,QV (by lia),by lia,by lia,_,⟨_,_,_,h,T.BE,T.Cw,rfl⟩,b,rfl,QM hb Uo ⟨b,ty,k - 1,rfl,hb,w3,by lia,(by have h3:Mt.dep ty+1<=n+1:=h3;lia),λH' s=>⟨_,rfl,?_,?_⟩⟩⟩
 ·rw[As];lia
 ·rw[<-A2];have e:showTy (.many m ty)=word "many "++showInt (m:Int)++word " "++showTy ty:=by
   show word "many "++(showNat m++(word " "++showTy ty))=_;rw[show showInt (m:Int)=showNat m from rfl];simp only[append_assoc]
  rw[<-e];exact q H' s
theorem wH(T:Txt K mg t)(IH:MP P w K mg AJ t (n+1) "form" (EH t n)):FO P w K mg AJ t (n+2) t.JX t.JY ["self"] (aM t.BV KQ (EH t (n+1))):=by
 refine T.Jd.Cr IT ?_;rintro _ A _ s H _ Q E hr ⟨⟨a',r',dx,fs,e',hp,hn⟩,a,ty,k,rfl,h1,h2,hk,h3,q⟩;cases e';have nd:=IT.nd;refine⟨_,(AD (fm (i:=1) (own:=[("name",2),("inner",3)]) rfl nd rfl rfl (kq rfl rfl rfl rfl) (i8 rfl T.oR (AB (AQ (pv 0) rfl) (AB (AQ (pv 0) rfl) AE))) (B4 rfl) (λ_ _ _ _ _=>(YF (K:=K) (n:=2) rfl (CU (A8 (i:=2) nd rfl (Or.inl rfl) (.inr rfl)) (CU (A8 (i:=3) nd rfl (Or.inl rfl) (.inr rfl)) Lq)) rfl)) (λ_ _ _ _ _=>Ct) (λ_ _ _ _ _=>(An A1 (An A1 (pv 2) Ah) (Cf (by exact(pv 3)) IH (hr.mono (by lia)) AK))))
   (AH (AO (An A1 (An A1 Ah (X6 Ah (pv 1))) Ah)))),?_⟩
 walk_at "rd";obtain⟨r,rfl⟩:=dU ((h1.kn hp).symm.trans hn);obtain⟨dx',l1,l2,ns,bs,h,g1,g2,hb⟩:=h1;have hshp:=hb.iW.resolve_left (by rintro⟨_,_,z⟩;cases z);obtain⟨zs,rfl,rfl,hl,hz⟩:=hb.alts;obtain⟨w0,hw1,hw2,hw3⟩:=h2;have nrow:=(l8 _ _ hw3).2 hshp;rw[Mt.Cu] at hw1 hw2 nrow;have hk5:Bd (k - 1)<=131040:=zV (by lia);have nrow:(showTy (Valaya.rowOf zs)).length<=4 * (21+131040):=Nat.le_trans nrow (Nat.mul_le_mul hw2 (by lia));refine⟨_,⟨_,dx',_,h,T.BW,T.OA,rfl⟩,_,⟨_,dx',_,h,T.BW,T.CP,rfl⟩,l1,l2,_,_,rfl,A4.of g1,A4.of g2,λD hD=> ?_⟩;have ez:∀z∈zs,(showTy z.2.2).length<=131040/\z.1.name.length<=16:=λz m=>by obtain⟨i,hi⟩:=getElem?_of_mem m;obtain⟨b,hb⟩:∃b,bs[i]?=some b:=⟨_,getElem?_eq_getElem (by rw[hl];exact(List.getElem?_eq_some_iff.mp hi).1)⟩;exact⟨fZ (JN hw3 z m).1 (by lia) (hz i b z hb hi).oF,(JN hw3 z m).2.1⟩
 have lc:(word " : ").length=3:=rfl;refine eD ((zs.map λz=>strOf (z.1.name++(word " : "++showTy z.2.2))).map V.str) (by decide) (by simp[hl]) (by simp) (A4.of g1) (A4.of g2) (by simp[sizeLine_eq];lia) hD (λi x z y H1 Q1 hx hz' hy s1 q1=> ?_) λH2 s2 e2=> ?_
 ·obtain⟨x1,hx1,rfl⟩:=A5 hx;obtain⟨zz,hzz,rfl⟩:=A5 hx1;obtain⟨b,hb,rfl⟩:=CV hz';obtain⟨c,hc,rfl⟩:=A5 hy;obtain⟨z2,hz2,rfl⟩:=A5 hc;rw[hzz] at hz2;cases hz2;have hR:=(hz i b zz hb hzz).mono (KO.of s1);have hd:Mt.dep zz.2.2+1<=n+1:=Nat.le_trans (Nat.succ_le_succ (KZ (mem_of_getElem? hzz))) h3;obtain⟨n1,n2⟩:=ez zz (mem_of_getElem? hzz);refine⟨_,rfl,_,rfl,?_,?_⟩
  ·rw[Uc,As,As,sizeLine_eq];lia
  ·refine Ys hR Uo (λR hR=>hR) ⟨b,zz.2.2,_,rfl,hR,(JN hw3 zz (mem_of_getElem? hzz)).1,by lia,by lia,λH3 s3=>⟨_,rfl,_,rfl,?_,?_⟩⟩
   ·rw[Uc,<-A2,As,As,length_append,sizeLine_eq];lia
   ·rw[Uc,<-A2,<-A2,append_assoc];exact q1 H3 s3
 ·have hj:=qw zs;refine⟨⟨_,rfl⟩,D,rfl,_,.inl (A4.of e2),?_,?_,?_,?_⟩
  ·have hs:∀l:List (PName×Nat×Ty),(∀z∈l,(showTy z.2.2).length<=131040/\z.1.name.length<=16)->((l.map λz=>strOf (z.1.name++(word " : "++showTy z.2.2))).map λx=>x.length).sum<=l.length * 131059:=λl=>by
    induction l with
    |nil=>intro _;exact zero_le _
    |cons z l ih=>
     intro h;have h1:=ih λy m=>h y (mem_cons_of_mem _ m);obtain⟨h2,h3⟩:=h z mem_cons_self;simp only[map_cons,sum_cons,length_cons,As,length_append] at h1 ⊢
     lia
   have:=hs zs ez;have l2:(Str.ofString ", ").length=2:=rfl;rw[length_map,l2];lia
  ·rw[og,hj,oh,As,As,sizeLine_eq];have:(word "one { ").length=6:=rfl;lia
  ·rw[og,hj,oh,uW,<-A2,As,As,length_append,sizeLine_eq];have:(word "one { ").length=6:=rfl;have:(word " }").length=2:=rfl;lia
  ·rw[og,hj,oh,uW,<-A2,<-A2,append_assoc];exact q H2 s2
theorem wI(T:Txt K mg t)(_:MP P w K mg AJ t (n+1) "form" (EH t n)):FO P w K mg AJ t (n+2) t.HF t.HG ["self"] (aM t.BP KR (EH t (n+1))):=by refine T.HR.Cr Lj ?_;rintro _ A _ s H _ Q E hr ⟨⟨a',r',dx,fs,e',hp,hn⟩,a,ty,k,rfl,h1,h2,hk,h3,q⟩;cases e';refine⟨_,(AH (AO (AQ (AQ (pv 0) rfl) rfl))),?_⟩;walk_at "rd";obtain⟨x,ty,rfl⟩:=dW ((h1.kn hp).symm.trans hn);obtain⟨dx',b,h,hb⟩:=h1;obtain⟨fs',rfl⟩:=hb.Yr;obtain⟨dy,lf,ll,lr,as,ls,rs,g1,_⟩:=id hb;exact⟨_,⟨_,_,_,h,T.Bf,T.CY,rfl⟩,b,rfl,_,⟨_,_,_,g1,T.Ao,T.Ie,rfl⟩,q H (AR.refl H)⟩
theorem cp(T:Txt K mg t):∀n,MP P w K mg AJ t (n+1) "form" (EH t n)
 | 0=>λC ns h=>by
  rcases h with⟨rfl,rfl⟩ | ⟨rfl,rfl⟩ | ⟨rfl,rfl⟩ | ⟨rfl,rfl⟩ | ⟨rfl,rfl⟩
  ·exact⟨T.A0,_,_,_,T.LU,T.GI.aK FU (λvs H Q E z=>Nw z.2),Ld T⟩
  ·exact⟨T.Be,_,_,_,T.MD,T.HN.aK Lg (λvs H Q E z=>Nw z.2),MO T⟩
  ·exact⟨T.BE,_,_,_,T.N6,T.IP.aK MV (λvs H Q E z=>Nw z.2),OE T⟩
  ·exact⟨T.BW,_,_,_,T.PZ,T.Jd.aK IT (λvs H Q E z=>Nw z.2),Pd T⟩
  ·exact⟨T.Bf,_,_,_,T.MG,T.HR.aK Lj (λvs H Q E z=>Nw z.2),MS T⟩
 |n+1=>λC ns h=>by
  have IH:=cp T n;rcases h with⟨rfl,rfl⟩ | ⟨rfl,rfl⟩ | ⟨rfl,rfl⟩ | ⟨rfl,rfl⟩ | ⟨rfl,rfl⟩
  ·exact⟨T.A0,_,_,_,T.LU,wD T IH,Ld T⟩
  ·exact⟨T.Be,_,_,_,T.MD,wF T IH,MO T⟩
  ·exact⟨T.BE,_,_,_,T.N6,wG T IH,OE T⟩
  ·exact⟨T.BW,_,_,_,T.PZ,wH T IH,Pd T⟩
  ·exact⟨T.Bf,_,_,_,T.MG,wI T IH,MS T⟩
theorem mB(T:Txt K mg t):MP P w K mg AJ t 43 "form" (EH t 42):=cp T 42
end
section
def Py(z:PName×Nat×Ty):Bytes:=Valaya.line (z.1.name++(word " : "++(showTy z.2.2++((if z.2.1=1 then [] else word " hot "++showNat z.2.1)++word " ;"))))
theorem EV:∀zs:List (PName×Nat×Ty),showFields (Valaya.rowOf zs)=(zs.map Py).flatten
 | []=>rfl
 |z::zs=>by show Py z++showFields (Valaya.rowOf zs)=_;rw[EV zs];rfl
structure ZG(n:Nat)(z:PName×Nat×Ty):Prop where
 nm:z.1.name.length<=16
 hot:z.2.1<=1000
 ok:Mt.wf z.2.2 6
 dp:Mt.dep z.2.2<=n
 sp:iW z.2.2 false
theorem mC{z:PName×Nat×Ty}(h:ZG n z):(Py z).length<=131100:=by
 have h1:=fZ h.ok (Nat.le_refl 6) h.sp;have h2:=h.nm;have h3:=YI (n:=z.2.1) (k:=4) (by decide) (by have:=h.hot;lia);unfold Py Valaya.line;rw[length_append,length_append,length_append,length_append,length_append];have e1:(word " : ").length=3:=rfl;have e2:(word " ;").length=2:=rfl;have e3:(if z.2.1=1 then [] else word " hot "++showNat z.2.1).length<=9:=by
  split
  ·exact zero_le _
  ·rw[length_append];have:(word " hot ").length=5:=rfl;lia
 have e4:([10]:Bytes).length=1:=rfl
 lia
inductive To(t:Bz)(vs:List V)(H:Hp)(Q:VK)(E:XK):Prop | mk:∀a z,vs=[.ref a]->Lo t H a z->ZG 42 z->(∀H',AR H H'->Q (.str (strOf (Py z))) H')->To t vs H Q E
theorem bM:FT P w AJ T 44 t.Oy t.Oz ["self"] (To t):=by
 refine T.VO.Cr bG ?_;rintro _ A _ s H _ Q E hr ⟨a,z,rfl,⟨dx,b,h,hb⟩,zg,q⟩;refine⟨_,(AD (Ay (AU B3 (AQ (pv 0) rfl) Aj (AY _)) (AH (AO (An A1 (An A1 (An A1 (AQ (pv 0) rfl) Ah) (Cf (by exact(AQ (pv 0) rfl)) (mB T) hr.lt AK)) Ah))) AX)
   (AH (AO (An A1 (An A1 (An A1 (An A1 (An A1 (AQ (pv 0) rfl) Ah) (Cf (by exact(AQ (pv 0) rfl)) (mB T) hr.lt AK)) Ah) (CM Eu rfl T.bY boot_str (AB (AQ (pv 0) rfl) AE))) Ah)))),?_⟩
 walk_at "rd";have n1:=fZ zg.ok (Nat.le_refl 6) zg.sp;have n2:=zg.nm;have n3:(showInt (z.2.1:Int)).length<=8:=ET ⟨by lia,by have:=zg.hot;lia⟩;have l1:(word " : ").length=3:=rfl;have l2:(word " hot ").length=5:=rfl;have l3:(word " ;"++ [10]).length=3:=rfl;refine⟨_,⟨_,_,_,h,T.En,T.RB,rfl⟩,rfl,Az (λz0=> ?_) λz0=> ?_⟩
 ·have z0:z.2.1=1:=by have:=V.int.inj z0;lia
  refine⟨_,⟨_,_,_,h,T.En,T.O8,rfl⟩,_,rfl,by rw[Uc,As,As,sizeLine_eq];lia,_,⟨_,_,_,h,T.En,T.D3,rfl⟩,b,rfl,QM hb Uo ⟨b,z.2.2,6,rfl,hb,zg.ok,Nat.le_refl 6,zg.dp,λH' s=>⟨_,rfl,?_,?_,?_⟩⟩⟩
  ·rw[Uc,<-A2,As,As,length_append,sizeLine_eq];lia
  ·rw[Uc,uw,<-A2,<-A2,As,As,length_append,length_append,sizeLine_eq];lia
  ·rw[Uc,uw,<-A2,<-A2,<-A2];have e:Py z=z.1.name++word " : "++showTy z.2.2++(word " ;"++ [10]):=by
    unfold Py Valaya.line;rw[if_pos z0];simp only[append_assoc,nil_append]
   rw[<-e];exact q H' s
 ·have z0:z.2.1≠1:=λe=>z0 (by rw[e];rfl);refine⟨_,⟨_,_,_,h,T.En,T.O8,rfl⟩,_,rfl,by rw[Uc,As,As,sizeLine_eq];lia,_,⟨_,_,_,h,T.En,T.D3,rfl⟩,b,rfl,QM hb Uo ⟨b,z.2.2,6,rfl,hb,zg.ok,Nat.le_refl 6,zg.dp,λH' s=>⟨_,rfl,?_⟩⟩⟩;have l4:(word " ;").length=2:=rfl;simp only[Uc,yJ,uw,str_int,<-A2,As,sizeLine_eq,length_append,length_cons,length_nil];have hh:=zg.hot;refine⟨by lia,by lia,_,⟨_,_,_,s _ _ h,T.En,T.RB,rfl⟩,_,rfl,QV (by lia),by lia,by lia,?_⟩
  ·have e:Py z=z.1.name++word " : "++showTy z.2.2++word " hot "++showInt (z.2.1:Int)++(word " ;"++ [10]):=by
    unfold Py Valaya.line;rw[if_neg z0,show showInt (z.2.1:Int)=showNat z.2.1 from rfl];simp only[append_assoc]
   rw[<-e];exact q H' s
def mT(x:Bytes)(fs:Ty):Bytes:=Valaya.line (word "record "++(x++word " {"))++(showFields fs++Valaya.line (word "}"))
theorem tD(r:Rec){fs:Ty}(h:r.t= .rec_ fs):shownRec r=mT r.x.name fs:=by unfold shownRec;rw[h];rfl
inductive Rm(t:Bz)(vs:List V)(H:Hp)(Q:VK)(E:XK):Prop | mk:∀a fs x,vs=[.ref a]->Rep t H (.rec_ fs) (.rc a (strOf x))->x.length<=16->Mt.wf (.rec_ fs) 6->Mt.dep fs<=42->countLeaves (.rec_ fs)<=24->(∀H',AR H H'->Q (.str (strOf (mT x fs))) H')->Rm t vs H Q E
theorem Z3:FT P w AJ T 45 t.My t.Mz ["self"] (Rm t):=by
 refine T.TJ.Cr Rf ?_;rintro _ A _ s H _ Q E hr ⟨a,fs,x,rfl,h1,hx,h2,h3,h4,q⟩;have nd:=Rf.nd;refine⟨_,(AH (AO (An A1 (An A1 (An A1 (An A1 Ah (AQ (pv 0) rfl)) Ah) (X6 Ah (Jk (own:=[("field",1)]) rfl nd (Cb (AQ (pv 0) rfl)) (B4 rfl) (λ_ _ _ _ _=>(A8 (i:=1) nd rfl (Or.inl rfl) (.inr rfl))) (λ_ _ _ _ _=>Ct) (λ_ _ _ _ _=>(Ad (pv 1) T.En T.eP (bM T) hr.lt (eZ T) .nil AK))))) Ah))),?_⟩;walk_at "rd";obtain⟨dx,lf,ll,lr,as,ls,rs,g1,g2,g3,g4,g5,g6,hb⟩:=h1;have hshp:=hb.iW.resolve_left (by rintro⟨_,_,z⟩;cases z);have h4':=Wc h2.2 h4;obtain⟨zs,rfl,hl,hz⟩:=hb.fields;rw[Mt.Cu] at h4';have l1:(word "record ").length=7:=rfl;have l2:(word " {"++ [10]).length=3:=rfl;have l3:(word "}"++ [10]).length=2:=rfl;have zg:∀(i:Nat) (z:PName×Nat×Ty),zs[i]?=some z->ZG 42 z:=λi z hi=>by have m:=mem_of_getElem? hi;obtain⟨b,hb⟩:∃b,as[i]?=some b:=⟨_,getElem?_eq_getElem (by rw[hl];exact(List.getElem?_eq_some_iff.mp hi).1)⟩;obtain⟨_,c,_,hc⟩:=hz i b z hb hi;obtain⟨a1,a2,a3,a4⟩:=JN h2.2 z m;exact⟨a2,a3,a1,Nat.le_trans (KZ m) h3,hc.oF⟩
 refine⟨_,⟨_,_,_,g1,T.Ao,T.Ie,rfl⟩,_,rfl,by rw[fb,As,As,sizeLine_eq];lia,by rw[fb,rY,<-A2,As,As,l2,length_append,sizeLine_eq];lia,⟨_,rfl⟩,?_⟩;refine⟨_,⟨_,dx,_,g1,T.Ao,T.Fs,rfl⟩,lf,rfl,⟨_,A4.of g2⟩,λD hD=> ?_⟩;refine OS ((zs.map λz=>strOf (Py z)).map V.str) (by simp[hl]) (A4.of g2) (by rw[length_map,hl,sizeLine_eq];lia) hD (λi x y H1 Q1 hx hy s1 q1=> ?_) λH2 s2 e2=> ?_
 ·obtain⟨b,hb,rfl⟩:=CV hx;obtain⟨c,hc,rfl⟩:=A5 hy;obtain⟨z,hz1,rfl⟩:=A5 hc;have hF:=(hz i b z hb hz1).mono (KO.of s1);obtain⟨dy,c,e3,_⟩:=id hF;exact⟨⟨_,_,e3,rfl⟩,b,z,rfl,hF,zg i z hz1,q1⟩
 ·have ej:Txt.join (Str.ofString "") (zs.map λz=>strOf (Py z))=strOf (showFields (Valaya.rowOf zs)):=by
   rw[EV,show (zs.map λz=>strOf (Py z))=((zs.map Py).map λb:Bytes=>b.map λc=>c.toNat).map Gj by rw[map_map,map_map];rfl,join_one];unfold strOf;rw[List.map_flatten]
  have hs:∀l:List (PName×Nat×Ty),(∀z∈l,(Py z).length<=131100)->((l.map λz=>strOf (Py z)).map λx=>x.length).sum<=l.length * 131100/\((l.map Py).flatten).length<=l.length * 131100:=λl=>by
   induction l with
   |nil=>intro _;exact⟨zero_le _,zero_le _⟩
   |cons z l ih=>
    intro h;obtain⟨h1,h5⟩:=ih λy m=>h y (mem_cons_of_mem _ m);have h2:=h z mem_cons_self;simp only[map_cons,sum_cons,length_cons,As,flatten_cons,length_append] at h1 h5 ⊢
    lia
  obtain⟨t1,t2⟩:=hs zs λz m=>by obtain⟨i,hi⟩:=getElem?_of_mem m;exact mC (zg i z hi)
  have t3:zs.length * 131100<=24 * 131100:=mul_le_mul_right _ h4';refine⟨D,rfl,_,.inl (A4.of e2),?_,?_,?_,?_⟩
  ·rw[show (Str.ofString "").length=0 from rfl];lia
  ·rw[ej,fb,rY,<-A2,<-A2,As,As,length_append,length_append,l2,EV,sizeLine_eq];lia
  ·rw[ej,fb,rY,uX,<-A2,<-A2,<-A2,As,As,length_append,length_append,length_append,l2,l3,EV,sizeLine_eq];lia
  ·rw[ej,fb,rY,uX,<-A2,<-A2,<-A2,<-A2];have e:mT x (Valaya.rowOf zs)=word "record "++x++(word " {"++ [10])++showFields (Valaya.rowOf zs)++(word "}"++ [10]):=by
    unfold mT Valaya.line;simp only[append_assoc]
   rw[<-e];exact q H2 s2
end
end Pr
namespace Pr
open PySem PySem.Spec PyProof.Rows L2
open ValayBase (PTok Toks PName Bytes word)
open Valaya (Ty Rec Leaf)
theorem gY:∀(zs:List (PName×Nat×Ty)) (z:PName×Nat×Ty),countLeaves (Valaya.rowOf (zs++ [z]))=countLeaves (Valaya.rowOf zs)+countLeaves z.2.2:=by intro zs z;rw[Hu,Hu,map_append,sum_append];simp
theorem Zc(zs:List (PName×Nat×Ty))(i:Nat):countLeaves (Valaya.rowOf (zs.take i))<=countLeaves (Valaya.rowOf zs):=by
 rw[Hu,Hu];have e:=List.take_append_drop i zs;have:(zs.map λz=>countLeaves z.2.2)=((zs.take i).map λz=>countLeaves z.2.2)++((zs.drop i).map λz=>countLeaves z.2.2):=by rw[<-map_append,e]
 rw[this,sum_append];lia
theorem take_snoc{α:Type}{l:List α}{x:α}(h:l[i]?=some x):l.take (i+1)=l.take i++ [x]:=by rw[take_add_one,h];rfl
def xo(g:List (Nat×Nat))(n:Nat):Option (Nat×Nat)->List (Nat×Nat)
 |none=>g
 |some a=>g++ [(a.1,a.2+n)]
theorem YJ:∀(zs:List (PName×Nat×Ty)) (z:PName×Nat×Ty) (k:Nat) (x:Bytes) (h:Nat) (g:List (Nat×Nat)) (alt:Option (Nat×Nat)),
  leavesBy (Valaya.rowOf (zs++ [z])) k x h g alt=leavesBy (Valaya.rowOf zs) k x h g alt++leavesBy z.2.2 (k+countLeaves (Valaya.rowOf zs)) (dotted x z.1.name) (h * z.2.1) (xo g zs.length alt) none
 | [],z,k,x,h,g,alt=>by
  cases alt with
  |none=>show leavesBy z.2.2 k _ _ g none++ []=[]++leavesBy z.2.2 (k+0) _ _ g none;rw[append_nil,nil_append,add_zero]
  |some a=>show leavesBy z.2.2 k _ _ (g++ [a]) none++ []=[]++leavesBy z.2.2 (k+0) _ _ (g++ [(a.1,a.2+0)]) none;rw[append_nil,nil_append,add_zero];rfl
 |y::zs,z,k,x,h,g,alt=>by
  have e:countLeaves (Valaya.rowOf (y::zs))=countLeaves y.2.2+countLeaves (Valaya.rowOf zs):=rfl;cases alt with
  |none=>show leavesBy y.2.2 k _ _ g none++leavesBy (Valaya.rowOf (zs++ [z])) (k+countLeaves y.2.2) x h g none=(leavesBy y.2.2 k _ _ g none++leavesBy (Valaya.rowOf zs) (k+countLeaves y.2.2) x h g none)++_;rw[YJ zs z,e,append_assoc,Nat.add_assoc];rfl
  |some a=>show leavesBy y.2.2 k _ _ (g++ [a]) none++leavesBy (Valaya.rowOf (zs++ [z])) (k+countLeaves y.2.2) x h g (some (a.1,a.2+1))=(leavesBy y.2.2 k _ _ (g++ [a]) none++leavesBy (Valaya.rowOf zs) (k+countLeaves y.2.2) x h g (some (a.1,a.2+1)))++_;rw[YJ zs z,e,append_assoc,Nat.add_assoc];congr 2;show leavesBy z.2.2 _ _ _ (g++ [(a.1,a.2+1+zs.length)]) none=leavesBy z.2.2 _ _ _ (g++ [(a.1,a.2+(zs.length+1))]) none;rw[show a.2+1+zs.length=a.2+(zs.length+1) by lia]
inductive dF(H:Hp)(G:Addr)(g:List (Nat×Nat)):Prop | mk:∀gs:List Addr,H G=some (.lst (gs.map V.ref))->gs.length=g.length->(∀(i:Nat) (b:Addr) (x:Nat×Nat),gs[i]?=some b->g[i]?=some x->H b=some (.tup [.int (x.1:Nat),.int (x.2:Nat)]))->dF H G g
inductive YV(t:Bz)(H:Hp)(L:Addr)(a:Addr)(f:Leaf):Prop | mk:∀dx G,H a=some (.ins t.Kn dx (fY [.int (width f:Nat),.int (f.align:Nat),.ref G]))->G≠L->dF H G f.guards->YV t H L a f
def FW(t:Bz)(H:Hp)(L:Addr)(as:List Addr)(ls:List Leaf):Prop:=as.length=ls.length/\∀(i:Nat) (a:Addr) (f:Leaf),as[i]?=some a->ls[i]?=some f->YV t H L a f
section
variable{g:List (Nat×Nat)}
theorem Kp.zF(k:Kp L H H')(hL:H L=some (.lst xs))(e:H a=some (.tup ys)):H' a=some (.tup ys):=k _ _ (λz=>by rw[z,hL] at e;cases e) e
theorem Kp.ux{fs:List (Str×V)}(k:Kp L H H')(hL:H L=some (.lst xs))(e:H a=some (.ins C dx fs)):H' a=some (.ins C dx fs):=k _ _ (λz=>by rw[z,hL] at e;cases e) e
theorem dF.kp(h:dF H G g)(k:Kp L H H')(hL:H L=some (.lst xs))(n:G≠L):dF H' G g:=let ⟨gs,h1,h2,h3⟩:=h;⟨gs,k _ _ n h1,h2,λi b x hb hx=>k.zF hL (h3 i b x hb hx)⟩
theorem dF.mono(h:dF H G g)(k:AR H H'):dF H' G g:=let ⟨gs,h1,h2,h3⟩:=h;⟨gs,k _ _ h1,h2,λi b x hb hx=>k _ _ (h3 i b x hb hx)⟩
theorem YV.kp{a:Addr}{f:Leaf}(h:YV t H L a f)(k:Kp L H H')(hL:H L=some (.lst xs)):YV t H' L a f:=let ⟨dx,G,h1,h2,h3⟩:=h;⟨dx,G,k.ux hL h1,h2,h3.kp k hL h2⟩
theorem FW.kp{as:List Addr}{ls:List Leaf}(h:FW t H L as ls)(k:Kp L H H')(hL:H L=some (.lst xs)):FW t H' L as ls:=⟨h.1,λi a f h1 h2=>(h.2 i a f h1 h2).kp k hL⟩
theorem FW.app{bs:List Addr}{ls ms:List Leaf}(h:FW t H L as ls)(h':FW t H L bs ms):FW t H L (as++bs) (ls++ms):=by
 refine⟨by rw[length_append,length_append,h.1,h'.1],λi a f h1 h2=> ?_⟩;rcases lt_or_ge i as.length with z | z
 ·rw[getElem?_append_left z] at h1;rw[getElem?_append_left (by rw[<-h.1];exact z)] at h2;exact h.2 i a f h1 h2
 ·rw[getElem?_append_right z] at h1;rw[getElem?_append_right (by rw[<-h.1];exact z),<-h.1] at h2;exact h'.2 _ a f h1 h2
theorem FW.one{f:Leaf}(h:YV t H L a f):FW t H L [a] [f]:=⟨rfl,λi b f' h1 h2=>by
 cases i with
 |zero=>cases h1;cases h2;exact h
 |succ i=>cases h1⟩
theorem YV.mono{a:Addr}{f:Leaf}(h:YV t H L a f)(k:AR H H'):YV t H' L a f:=let ⟨dx,G,h1,h2,h3⟩:=h;⟨dx,G,k _ _ h1,h2,h3.mono k⟩
theorem gZ:∀{as bs:List Addr},as.map V.ref=bs.map V.ref->as=bs
 | [],[],_=>rfl
 |a::as,b::bs,h=>by rw[map_cons,map_cons,List.cons.injEq] at h;rw[V.ref.inj h.1,gZ h.2]
 | [],_::_,h=>by cases h
 |_::_,[],h=>by cases h
end
section
def uY(t:Bz)(H:Hp)(Q:VK)(L:Addr)(as:List Addr)(lv:Bytes->Nat->List Leaf):Prop:=∀H' new,Kp L H H'->H' L=some (.lst ((as++new).map V.ref))->(∀x h,FW t H' L new (lv x h))->Q .Fn H'
structure aQ(t:Bz)(H:Hp)(H0:Hp)(L G:Addr)(as:List Addr)(g:List (Nat×Nat)):Prop where
 l0:H0 L=none
 sm:AR H0 H
 lst:H L=some (.lst (as.map V.ref))
 gd:dF H G g
 gl:G≠L
theorem aQ.kp{H0:Hp}{L G:Addr}{as as':List Addr}{g:List (Nat×Nat)}(h:aQ t H H0 L G as g)(k:Kp L H H')(e:H' L=some (.lst (as'.map V.ref))):aQ t H' H0 L G as' g:=
 ⟨h.l0,λb o e=>k b o (λz=>by rw[z,h.l0] at e;cases e) (h.sm b o e),e,h.gd.kp k h.lst h.gl,h.gl⟩
theorem aQ.zW{g:List (Nat×Nat)}{k:Nat}{p1 p3:Addr}{gs:List Addr}(h:aQ t H H0 L G as g)(s:AR H H')(e1:H' p1=some (.tup [.int (k:Nat),.int (c:Nat)]))(hg:H G=some (.lst (gs.map V.ref)))(e3:H' p3=some (.lst (gs.map V.ref++ [.ref p1])))(n3:H p3=none):aQ t H' H0 L p3 as (g++ [(k,c)]):=by
 obtain⟨gs',h1,h2,h3⟩:=h.gd;rw[hg] at h1;have eg:gs=gs':=gZ (HO.lst.inj (Option.some.inj h1));subst eg;refine⟨h.l0,h.sm.trans s,s _ _ h.lst,⟨gs++ [p1],by rw[e3,map_append];rfl,by simp[h2],λi b x hb hx=> ?_⟩,λz=>by rw[z,h.lst] at n3;cases n3⟩;rcases lt_or_ge i gs.length with z | z
 ·rw[getElem?_append_left z] at hb;rw[getElem?_append_left (by rw[<-h2];exact z)] at hx;exact s _ _ (h3 i b x hb hx)
 ·rw[getElem?_append_right z] at hb;rw[getElem?_append_right (by rw[<-h2];exact z),<-h2] at hx;cases ei:i - gs.length with
  |zero=>rw[ei] at hb hx;cases hb;cases hx;exact e1
  |succ j=>rw[ei] at hb;cases hb
theorem Y7{x:Addr}{g:List (Nat×Nat)}{wv av:Nat}(gi:aQ t H H0 L G as g)(nx:H x=none)(s:AR H H2)(e:H2 x=some (.ins t.Kn dx (fY [.int (wv:Nat),.int (av:Nat),.ref G]))):
  Kp L H (L2.upd H2 L (.lst (as.map V.ref++ [.ref x])))/\aQ t (L2.upd H2 L (.lst (as.map V.ref++ [.ref x]))) H0 L G (as++ [x]) g/\∀f:Leaf,width f=wv->f.align=av->f.guards=g->YV t (L2.upd H2 L (.lst (as.map V.ref++ [.ref x]))) L x f:=by
 have hL:=s _ _ gi.lst;have k:Kp L H (L2.upd H2 L (.lst (as.map V.ref++ [.ref x]))):=λb o n e=>by rw[AM n];exact s _ _ e
 have k2:Kp L H2 (L2.upd H2 L (.lst (as.map V.ref++ [.ref x]))):=Kp.upd;have g3:=gi.kp (as':=as++ [x]) k (by rw[AG,map_append];rfl);exact⟨k,g3,λf h1 h2 h3=>⟨dx,G,k2.ux hL (by rw[h1,h2];exact e),gi.gl,by rw[h3];exact g3.gd⟩⟩
inductive EI(t:Bz)(n:Nat)(vs:List V)(H:Hp)(Q:VK)(E:XK):Prop | mk:∀(a L G:Addr) (ty:Ty) (k:Nat) (H0:Hp) (as:List Addr) (g:List (Nat×Nat)),vs=[.ref a,.ref L,.ref G]->Rep t H0 ty (.sh a)->aQ t H H0 L G as g->Mt.wf ty k->Mt.dep ty<=n->as.length+countLeaves ty<=24->g.length+n<=100->(uY t H Q L as λx h=>leavesBy ty as.length x h g none)->EI t n vs H Q E
theorem Ny(h:EI t 0 vs H Q E):False:=by obtain⟨a,L,G,ty,k,H0,as,g,_,h1,_,_,h2,_⟩:=h;have:=YG h1;lia
theorem wJ(T:Txt K mg t)(_:MP P w K mg AJ t (2 * n+4) "grow" (EI t n)):FO P w K mg AJ t (2 * (n+1)+4) t.F3 t.F4 ["self","leaves","guards"] (aM t.A6 KL (EI t (n+1))):=by refine T.GH.Cr Jz ?_;rintro _ A _ s H _ Q E hr ⟨⟨a',r',dx,fs,e',hp,hn⟩,a,L,G,ty,k,H0,as,g,rfl,h1,gi,h2,h3,h4,hgn,q⟩;cases e';refine⟨_,(AH (Au (Ua PySem.F.plainAttrs_list PySem.F.slot_list_append PySem.F.type_list_append Ht (pv 1) (AB (CL T.jB (PH T) (hr.mono (by lia)) rfl T.jA (RG T) .nil AK (AB (Ad (pv 0) T.A0 T.FJ (pV T (n:=0) (UJ T 0)) (hr.mono (by lia)) (FR T) .nil AK) (AB (AQ (pv 0) rfl) (AB (pv 2) AE)))) AE)))),?_⟩;walk_at "rd";have h1':=h1.mono (KO.of gi.sm);obtain⟨lo,hi,al,rfl⟩:=dQ ((h1'.kn hp).symm.trans hn);obtain⟨dx',h⟩:=id h1';have h4:as.length+1<=24:=h4;refine⟨.inl ⟨rfl,_,A4.of gi.lst⟩,⟨_,_,h,rfl⟩,⟨⟨a',[],dx',_,rfl,h,rfl⟩,a',_,k,rfl,h1',h2,Nat.le_refl _,λH1 s1=> ?_⟩⟩;refine⟨_,⟨_,_,_,s1 _ _ h,T.A0,T.DG,rfl⟩,YE rfl λx dx2 H2 nx s2 e2=> ?_⟩;obtain⟨k3,g3,lf⟩:=Y7 gi (s1.free nx) (s1.trans s2) e2;refine⟨_,(s1.trans s2) _ _ gi.lst,by rw[length_map,sizeLine_eq];lia,q _ [x] k3 g3.lst λnm hh=> ?_⟩;exact FW.one (lf _ rfl rfl rfl)
theorem wK(T:Txt K mg t)(IH:MP P w K mg AJ t (2 * n+4) "grow" (EI t n)):FO P w K mg AJ t (2 * (n+1)+4) t.G5 t.G6 ["self","leaves","guards"] (aM t.BO KN (EI t (n+1))):=by
 refine T.HM.Cr GN ?_;rintro _ A _ s H _ Q E hr ⟨⟨a',r',dx,fs,e',hp,hn⟩,a,L,G,ty,k,H0,as,g,rfl,h1,gi,h2,h3,h4,hgn,q⟩;cases e';have nd:=GN.nd;refine⟨_,(AD (ps_sl 3 nd (AZ Ak rfl T.B7 PySem.boot_len (AB (pv 1) AE)))
   (AD (Au (Ua PySem.F.plainAttrs_list PySem.F.slot_list_append PySem.F.type_list_append Ht (pv 1) (AB (CL T.jB (PH T) (hr.mono (by lia)) rfl T.jA (RG T) .nil AK (AB Aj (AB Aj (AB (pv 2) AE)))) AE)))
   (AH (Au (Ux (by exact(AQ (pv 0) rfl)) IH (hr.mono (by lia)) AK (AB (pv 1) (AB (An Kk (pv 2) (BU (AB (dH (AB (pv 3) (AB Aj AE))) AE))) AE))))))),?_⟩
 walk_at "rd";have h1':=h1.mono (KO.of gi.sm);obtain⟨ty,rfl⟩:=dR ((h1'.kn hp).symm.trans hn);obtain⟨dx0,b,h0,hb⟩:=h1;have h:=gi.sm _ _ h0;have h4:as.length+(1+countLeaves ty)<=24:=h4;refine⟨_,.inl (A4.of gi.lst),.inl ⟨rfl,_,A4.of gi.lst⟩,YE rfl λx dx2 H2 nx s2 e2=> ?_⟩;obtain⟨k3,g3,lf⟩:=Y7 (wv:=1) (av:=1) gi nx s2 e2;refine⟨_,s2 _ _ gi.lst,by rw[length_map,sizeLine_eq];lia,?_⟩;have hb3:=hb.mono (KO.of g3.sm);obtain⟨C,dc,fc,ec,ic⟩:=hb3.wc;refine⟨_,⟨_,_,_,g3.sm _ _ h0,T.Be,T.Ck,rfl⟩,b,rfl,C,dc,fc,ec,ic,ic.no YH,by rw[sizeLine_eq];decide,λp1 n1=>⟨by rw[sizeLine_eq];decide,λp2 n2=> ?_⟩⟩;obtain⟨gs,hg,gl,_⟩:=id g3.gd;have s4:=AR.upd (o:=HO.tup [V.int ((as.map V.ref).length:Nat),V.int 1]) n1;have s5:=s4.trans (AR.upd (o:=HO.lst [V.ref p1]) n2);have p12:p1≠p2:=λz=>by rw[<-z,AG] at n2;cases n2
 refine⟨_,s5 _ _ hg,_,AG,?_,λp3 n3=> ?_⟩
 ·rw[length_map,sizeLine_eq];show _+1<=_;lia
 have s6:=s5.trans (AR.upd (o:=HO.lst (gs.map V.ref++ [V.ref p1])) n3);have p13:p1≠p3:=λz=>by rw[<-z,AM p12,AG] at n3;cases n3
 have g6:=g3.zW (k:=as.length) (c:=1) s6 (by rw[AM p13,AM p12,AG,length_map];rfl) hg AG (s5.free n3);refine⟨⟨dc,fc,s6 _ _ ec,rfl⟩,b,L,p3,ty,k - 1,H0,as++ [x],_,rfl,hb,g6,h2.2,(by have h3:Mt.dep ty+1<=n+1:=h3;lia),by rw[length_append];show _+1+_<=_;lia,by rw[length_append];show _+1+_<=_;lia,λH7 new k7 e7 lf7=> ?_⟩;refine q H7 ([x]++new) ((k3.trans (Kp.of s6)).trans k7) (by rw[e7,append_assoc]) λnm hh=> ?_;have l7:=lf7 (dotted nm (word "some")) hh;rw[length_append] at l7;exact FW.app (FW.one (((lf ⟨dotted nm (word "maybe"),0,1,1,hh,1,g⟩ Mt.pM rfl rfl).mono s6).kp k7 (s6 _ _ g3.lst))) l7
theorem wL(T:Txt K mg t)(IH:MP P w K mg AJ t (2 * n+4) "grow" (EI t n)):FO P w K mg AJ t (2 * (n+1)+4) t.IC t.ID ["self","leaves","guards"] (aM t.BS KP (EI t (n+1))):=by
 refine T.IM.Cr HV ?_;rintro _ A _ s H _ Q E hr ⟨⟨a',r',dx,fs,e',hp,hn⟩,a,L,G,ty,k,H0,as,g,rfl,h1,gi,h2,h3,h4,hgn,q⟩;cases e';have nd:=HV.nd;refine⟨_,(AH (JL PassesOwn.never rfl (Nk rfl T.SI (AB (AQ (pv 0) rfl) AE)) (A8 (i:=3) nd rfl (Or.inl rfl)) (AH (Au (Ux (by exact(AQ (pv 0) rfl)) IH (hr.mono (by lia)) AK (AB (pv 1) (AB (pv 2) AE))))))),?_⟩;walk_at "rd";have h1':=h1.mono (KO.of gi.sm);obtain⟨m,ty,rfl⟩:=dS ((h1'.kn hp).symm.trans hn);obtain⟨dx0,b,h0,hb⟩:=h1;have h:=gi.sm _ _ h0;have h4:as.length+m * countLeaves ty<=24:=h4;obtain⟨w0,w1,w2,w3⟩:=h2;refine⟨_,⟨_,dx0,_,h,T.BE,T.Cv,rfl⟩,(m:Int),rfl,by lia,by lia,?_⟩;rw[Int.toNat_natCast];refine V9 (n:=m) (λi σ H'=>Kp L H H'/\∃new v,H' L=some (.lst ((as++new).map V.ref))/\(∀x h,FW t H' L new ((List.range i).flatMap λi=>leavesBy ty (as.length+i * countLeaves ty) (dotted x (showNat i)) h g none))/\σ=[some (.ref a'),some (.ref L),some (.ref G),v])
  ⟨Kp.refl _ _,[],none,by rw[append_nil];exact gi.lst,λx h=>⟨rfl,λi a f z=>by cases z⟩,rfl⟩ (λi σ H' hi pv=> ?_) λσ H' pv=> ?_
 ·obtain⟨k1,new,v,e1,l1,rfl⟩:=pv;have g1:=gi.kp k1 e1;walk_at "rd";have hb3:=hb.mono (KO.of g1.sm);obtain⟨C,dc,fc,ec,ic⟩:=hb3.wc;have nl:new.length=i * countLeaves ty:=by rw[(l1 [] 0).1,Mt.gH i (c:=countLeaves ty) λj=>Mt.Dd ..]
  have hm:(i+1) * countLeaves ty<=m * countLeaves ty:=mul_le_mul_right _ hi;rw[add_mul,one_mul] at hm;have al:(as++new).length=as.length+i * countLeaves ty:=by rw[length_append,nl]
  refine⟨_,⟨_,_,_,g1.sm _ _ h0,T.BE,T.Cw,rfl⟩,b,rfl,C,dc,fc,ec,ic,ic.no YH,⟨dc,fc,ec,rfl⟩,b,L,G,ty,k - 1,H0,as++new,g,rfl,hb,g1,w3,(by have h3:Mt.dep ty+1<=n+1:=h3;lia),by rw[al];lia,by lia,λH2 new2 k2 e2 l2=> ?_⟩;refine⟨k1.trans k2,new++new2,by rw[e2,append_assoc],λx h=> ?_,_,rfl⟩;have l3:=l2 (dotted x (showNat i)) h;rw[al] at l3;rw[range_succ,List.flatMap_append,List.flatMap_singleton];exact FW.app ((l1 x h).kp k2 e1) l3
 ·obtain⟨k1,new,v,e1,l1,rfl⟩:=pv;exact q H' new k1 e1 l1
theorem wM(T:Txt K mg t)(IH:MP P w K mg AJ t (2 * n+4) "grow" (EI t n)):FO P w K mg AJ t (2 * (n+1)+4) t.JV t.JW ["self","leaves","guards"] (aM t.BV KQ (EI t (n+1))):=by
 refine T.Jc.Cr IS ?_;rintro _ A _ s H _ Q E hr ⟨⟨a',r',dx,fs,e',hp,hn⟩,a,L,G,ty,k,H0,as,g,rfl,h1,gi,h2,h3,h4,hgn,q⟩;cases e';have nd:=IS.nd;refine⟨_,(AD (ps_sl 3 nd (AZ Ak rfl T.B7 PySem.boot_len (AB (pv 1) AE)))
   (AD (Au (Ua PySem.F.plainAttrs_list PySem.F.slot_list_append PySem.F.type_list_append Ht (pv 1) (AB (CL T.jB (PH T) (hr.mono (by lia)) rfl T.jA (RG T) .nil AK (AB (Ad (pv 0) T.BW T.JA (Hq T) (hr.mono (by lia)) (JG T) .nil AK) (AB Aj (AB (pv 2) AE)))) AE)))
   (AH (JL PassesOwn.never rfl (kz rfl T.XN (AB (AQ (pv 0) rfl) AE)) (Yd rfl (CU (A8 (i:=4) nd rfl (Or.inl rfl)) (CU (A8 (i:=5) nd rfl (Or.inl rfl)) Lq))) (AH (Au (Ux (by exact(pv 5)) IH (hr.mono (by lia)) AK (AB (pv 1) (AB (An Kk (pv 2) (BU (AB (dH (AB (pv 3) (AB (pv 4) AE))) AE))) AE))))))))),?_⟩
 walk_at "rd";have h1':=h1.mono (KO.of gi.sm);obtain⟨r,rfl⟩:=dU ((h1'.kn hp).symm.trans hn);obtain⟨dx0,l1,l2,ns,bs,h0,g1,g2,hb⟩:=h1;obtain⟨zs,rfl,rfl,hl,hz⟩:=hb.alts;have h:=gi.sm _ _ h0;have h4:as.length+(1+countLeaves (Valaya.rowOf zs))<=24:=h4;obtain⟨w0,w1,w2,w3⟩:=h2;rw[Mt.Cu] at w1 w2;refine⟨_,.inl (A4.of gi.lst),.inl ⟨rfl,_,A4.of gi.lst⟩,⟨_,_,h,rfl⟩,a',dx0,l1,l2,bs,rfl,h,gi.sm _ _ g2,by lia,by lia,YE rfl λx dx2 H2 nx s2 e2=> ?_⟩;obtain⟨k3,g3,lf⟩:=Y7 (av:=1) gi nx s2 e2;refine⟨_,s2 _ _ gi.lst,by rw[length_map,sizeLine_eq];lia,?_⟩;have hbl:bs.length=rowLength (Valaya.rowOf zs):=by rw[Mt.Cu,hl]
 have l0:∀(nm:Bytes) (hh:Nat),YV t (L2.upd H2 L (.lst (as.map V.ref++ [.ref x]))) L x ⟨dotted nm (word "one"),0,((rowLength (Valaya.rowOf zs):Nat):Int) - 1,1,hh,2,g⟩:=λnm hh=>lf _ (by rw[hbl];exact Mt.pN) rfl rfl;have h3':Mt.dep (Valaya.rowOf zs)+1<=n+1:=h3;have el:=(length_map (as:=as) V.ref);rw[el];refine⟨_,⟨_,dx0,_,g3.sm _ _ h0,T.BW,T.CP,rfl⟩,l2,_,rfl,A4.of (g3.sm _ _ g2),?_⟩;refine qP (xs:=bs.map V.ref) (λi σ H'=>Kp L (L2.upd H2 L (.lst (as.map V.ref++ [.ref x]))) H'/\∃new v4 v5,H' L=some (.lst (((as++ [x])++new).map V.ref))/\(∀nm hh,FW t H' L new (leavesBy (Valaya.rowOf (zs.take i)) (as.length+1) nm hh g (some (as.length,0))))/\σ=[some (.ref a'),some (.ref L),some (.ref G),some (.int (as.length:Nat)),v4,v5])
  ⟨Kp.refl _ _,[],none,none,by rw[append_nil];exact g3.lst,λnm hh=>⟨rfl,λi a f z=>by cases z⟩,rfl⟩ (λi σ H' _ pv=> ?_) (λi v σ H' Tp hv pv hT=> ?_) λσ H' pv=> ?_
 ·obtain⟨k1,new,v4,v5,e1,_⟩:=pv;exact A4.of ((g3.kp k1 e1).sm _ _ g2)
 ·obtain⟨k1,new,v4,v5,e1,lf1,rfl⟩:=pv;obtain⟨b,hb1,rfl⟩:=CV hv;have hi:i<zs.length:=by rw[<-hl];exact(List.getElem?_eq_some_iff.mp hb1).1
  obtain⟨z,hz1⟩:∃z,zs[i]?=some z:=⟨_,getElem?_eq_getElem hi⟩;have hR:=hz i b z hb1 hz1;have sT:=AR.upd (o:=HO.tup [V.int (i:Nat),V.ref b]) hT;have g4:=(g3.kp k1 e1).kp (as':=(as++ [x])++new) (Kp.of sT) (sT _ _ e1);refine⟨Tp,_,rfl,YO.of AG,rfl,_,_,rfl,_,_,rfl,rfl,?_⟩;walk_at "rd";have hb3:=hR.mono (KO.of g4.sm);obtain⟨C,dc,fc,ec,ic⟩:=hb3.wc;obtain⟨gs,hg,gl,_⟩:=id g4.gd;refine⟨C,dc,fc,ec,ic,ic.no YH,by rw[sizeLine_eq];decide,λp1 n1=>⟨by rw[sizeLine_eq];decide,λp2 n2=> ?_⟩⟩;have s4:=AR.upd (o:=HO.tup [V.int (as.length:Nat),V.int (i:Nat)]) n1;have s5:=s4.trans (AR.upd (o:=HO.lst [V.ref p1]) n2);have p12:p1≠p2:=λz=>by rw[<-z,AG] at n2;cases n2
  refine⟨_,s5 _ _ hg,_,AG,by rw[length_map,sizeLine_eq];show _+1<=_;lia,λp3 n3=> ?_⟩;have s6:=s5.trans (AR.upd (o:=HO.lst (gs.map V.ref++ [V.ref p1])) n3);have p13:p1≠p3:=λz=>by rw[<-z,AM p12,AG] at n3;cases n3
  have g6:=g4.zW (k:=as.length) (c:=i) s6 (by rw[AM p13,AM p12,AG]) hg AG (s5.free n3);have nl:new.length=countLeaves (Valaya.rowOf (zs.take i)):=by rw[(lf1 [] 0).1,Mt.Dd]
  have al:((as++ [x])++new).length=as.length+1+countLeaves (Valaya.rowOf (zs.take i)):=by rw[length_append,length_append,nl];rfl
  have ct:=Zc zs (i+1);rw[take_snoc hz1,gY] at ct;have zd:=KZ (mem_of_getElem? hz1);refine⟨⟨dc,fc,s6 _ _ ec,rfl⟩,b,L,p3,z.2.2,k - 1,H0,(as++ [x])++new,_,rfl,hR,g6,(JN w3 z (mem_of_getElem? hz1)).1,by lia,by rw[al];lia,by rw[length_append];show _+1+_<=_;lia,λH7 new2 k7 e7 lf7=> ?_⟩;have kk:Kp L H' H7:=(Kp.of (sT.trans s6)).trans k7;refine⟨k1.trans kk,new++new2,by rw[e7,append_assoc],λnm hh=> ?_,_,rfl⟩;have l7:=lf7 (dotted nm z.1.name) (hh * z.2.1);rw[al] at l7;rw[take_snoc hz1,YJ];have eg:xo g (zs.take i).length (some (as.length,0))=g++ [(as.length,i)]:=by show g++ [(as.length,0+(zs.take i).length)]=_;rw[length_take,min_eq_left (by lia),zero_add]
  rw[eg];exact FW.app ((lf1 nm hh).kp kk e1) l7
 ·obtain⟨k1,new,v4,v5,e1,lf1,rfl⟩:=pv;refine q H' ([x]++new) (k3.trans k1) (by rw[e1,append_assoc]) λnm hh=> ?_;have l7:=lf1 nm hh;rw[length_map,hl,take_length] at l7;exact FW.app (FW.one ((l0 nm hh).kp k1 g3.lst)) l7
inductive LD(t:Bz)(n:Nat)(vs:List V)(H:Hp)(Q:VK)(E:XK):Prop | mk:∀(a L G lf dx:Addr) (bs:List Addr) (fs:Ty) (H0:Hp) (as:List Addr) (g:List (Nat×Nat)) (gs:List (Str×V)),vs=[.ref a,.ref L,.ref G]->H a=some (.ins t.BD dx gs)->gs.lookup (Str.ofString "fields")=some (V.ref lf)->H0 lf=some (.lst (bs.map V.ref))->Rep t H0 fs (.fld bs)->aQ t H H0 L G as g->Mt.wf fs 6->Mt.dep fs<=n->as.length+countLeaves fs<=24->g.length+n<=100->(uY t H Q L as λx h=>leavesBy fs as.length x h g none)->LD t n vs H Q E
theorem OH(T:Txt K mg t)(IH:MP P w K mg AJ t (2 * n+4) "grow" (EI t n)):FO P w K mg AJ t (2 * n+5) t.Ia t.Ib ["self","leaves","guards"] (LD t n):=by
 refine T.TH.Cr Rc ?_;rintro _ A _ s H _ Q E hr ⟨a,L,G,lf,dx,bs,fs,H0,as,g,gs,rfl,ha,hfl,hlf,hb,gi,h2,h3,h4,hgn,q⟩;have nd:=Rc.nd;refine⟨_,(AH (JL PassesOwn.never rfl (Cb (AQ (pv 0) rfl)) (A8 (i:=3) nd rfl (Or.inl rfl)) (AH (Au (Ux (by exact(AQ (pv 3) rfl)) IH (hr.mono (by lia)) AK (AB (pv 1) (AB (pv 2) AE))))))),?_⟩;walk_at "rd";obtain⟨zs,rfl,hl,hz⟩:=hb.fields;refine⟨_,⟨_,dx,_,ha,T.Ao,T.Fs,hfl⟩,lf,rfl,⟨_,A4.of (gi.sm _ _ hlf)⟩,?_⟩;refine Kr (xs:=bs.map V.ref) (λi σ H'=>Kp L H H'/\∃new v,H' L=some (.lst ((as++new).map V.ref))/\(∀nm hh,FW t H' L new (leavesBy (Valaya.rowOf (zs.take i)) as.length nm hh g none))/\σ=[some (.ref a),some (.ref L),some (.ref G),v])
  ⟨Kp.refl _ _,[],none,by rw[append_nil];exact gi.lst,λnm hh=>⟨rfl,λi a f z=>by cases z⟩,rfl⟩ (λi σ H' _ pv=> ?_) (λi v σ H' hv pv=> ?_) λσ H' pv=> ?_
 ·obtain⟨k1,new,v,e1,_⟩:=pv;exact A4.of ((gi.kp k1 e1).sm _ _ hlf)
 ·obtain⟨k1,new,v4,e1,lf1,rfl⟩:=pv;obtain⟨b,hb1,rfl⟩:=CV hv;have hi:i<zs.length:=by rw[<-hl];exact(List.getElem?_eq_some_iff.mp hb1).1
  obtain⟨z,hz1⟩:∃z,zs[i]?=some z:=⟨_,getElem?_eq_getElem hi⟩;obtain⟨dz,c,ez,hR⟩:=hz i b z hb1 hz1;have g4:=gi.kp k1 e1;walk_at "rd";have hb3:=hR.mono (KO.of g4.sm);obtain⟨C,dc,fc,ec,ic⟩:=hb3.wc;have nl:new.length=countLeaves (Valaya.rowOf (zs.take i)):=by rw[(lf1 [] 0).1,Mt.Dd]
  have al:(as++new).length=as.length+countLeaves (Valaya.rowOf (zs.take i)):=by rw[length_append,nl]
  have ct:=Zc zs (i+1);rw[take_snoc hz1,gY] at ct;have zd:=KZ (mem_of_getElem? hz1);refine⟨_,⟨_,_,_,g4.sm _ _ ez,T.En,T.D3,rfl⟩,c,rfl,C,dc,fc,ec,ic,ic.no YH,⟨dc,fc,ec,rfl⟩,c,L,G,z.2.2,6,H0,as++new,g,rfl,hR,g4,(JN h2 z (mem_of_getElem? hz1)).1,by lia,by rw[al];lia,hgn,λH7 new2 k7 e7 lf7=> ?_⟩;refine⟨k1.trans k7,new++new2,by rw[e7,append_assoc],λnm hh=> ?_,_,rfl⟩;have l7:=lf7 (dotted nm z.1.name) (hh * z.2.1);rw[al] at l7;rw[take_snoc hz1,YJ];exact FW.app ((lf1 nm hh).kp k7 e1) l7
 ·obtain⟨k1,new,v,e1,lf1,rfl⟩:=pv;refine q H' new k1 e1 λnm hh=> ?_;have l7:=lf1 nm hh;rw[length_map,hl,take_length] at l7;exact l7
theorem wN(T:Txt K mg t)(IH:MP P w K mg AJ t (2 * n+4) "grow" (EI t n)):FO P w K mg AJ t (2 * (n+1)+4) t.HD t.HE ["self","leaves","guards"] (aM t.BP KR (EI t (n+1))):=by refine T.HQ.Cr Li ?_;rintro _ A _ s H _ Q E hr ⟨⟨a',r',dx,fs,e',hp,hn⟩,a,L,G,ty,k,H0,as,g,rfl,h1,gi,h2,h3,h4,hgn,q⟩;cases e';refine⟨_,(AH (Au (Ac (AQ (pv 0) rfl) T.Ao T.TC (OH T IH) (hr.mono (by lia)) (Tc T) .nil AK (AB (pv 1) (AB (pv 2) AE))))),?_⟩;walk_at "rd";have h1':=h1.mono (KO.of gi.sm);obtain⟨x,ty,rfl⟩:=dW ((h1'.kn hp).symm.trans hn);obtain⟨dx',b,h0,hb⟩:=h1;obtain⟨fs',rfl⟩:=hb.Yr;obtain⟨dy,lf,ll,lr,bs,ls,rs,g1,g2,_,_,_,_,hf⟩:=hb;exact⟨_,⟨_,_,_,gi.sm _ _ h0,T.Bf,T.CY,rfl⟩,b,rfl,⟨_,_,gi.sm _ _ g1,rfl⟩,b,L,G,lf,dy,bs,fs',H0,as,g,_,rfl,gi.sm _ _ g1,rfl,g2,hf,gi,h2.2.2.2.2,(by have h3:Mt.dep fs'+1+1<=n+1:=h3;lia),h4,by lia,q⟩
theorem cq(T:Txt K mg t):∀n,MP P w K mg AJ t (2 * n+4) "grow" (EI t n)
 | 0=>λC ns h=>by
  rcases h with⟨rfl,rfl⟩ | ⟨rfl,rfl⟩ | ⟨rfl,rfl⟩ | ⟨rfl,rfl⟩ | ⟨rfl,rfl⟩
  ·exact⟨T.A0,_,_,_,T.LS,T.GH.aK Jz (λvs H Q E z=>Ny z.2),Lc T⟩
  ·exact⟨T.Be,_,_,_,T.MB,T.HM.aK GN (λvs H Q E z=>Ny z.2),MN T⟩
  ·exact⟨T.BE,_,_,_,T.N5,T.IM.aK HV (λvs H Q E z=>Ny z.2),OD T⟩
  ·exact⟨T.BW,_,_,_,T.PY,T.Jc.aK IS (λvs H Q E z=>Ny z.2),Pc T⟩
  ·exact⟨T.Bf,_,_,_,T.MF,T.HQ.aK Li (λvs H Q E z=>Ny z.2),MR T⟩
 |n+1=>λC ns h=>by
  have IH:=cq T n;rcases h with⟨rfl,rfl⟩ | ⟨rfl,rfl⟩ | ⟨rfl,rfl⟩ | ⟨rfl,rfl⟩ | ⟨rfl,rfl⟩
  ·exact⟨T.A0,_,_,_,T.LS,wJ T IH,Lc T⟩
  ·exact⟨T.Be,_,_,_,T.MB,wK T IH,MN T⟩
  ·exact⟨T.BE,_,_,_,T.N5,wL T IH,OD T⟩
  ·exact⟨T.BW,_,_,_,T.PY,wM T IH,Pc T⟩
  ·exact⟨T.Bf,_,_,_,T.MF,wN T IH,MR T⟩
theorem Z4:FT P w AJ T 89 t.Ia t.Ib ["self","leaves","guards"] (LD t 42):=OH T (n:=42) (cq T 42)
end
def we(g:List (Nat×Nat)):List (Key×V):=g.map λx=>(Sum.inl (x.1:Int),V.int (x.2:Nat))
theorem mD:∀(g:List (Nat×Nat)) (kvs:List (Key×V)) (k:Nat),(g.map (·.1)).Nodup->EL (Kl kvs (we g)) (Sum.inl (k:Int):Key)=match g.lookup k with
  |some v=>some (V.int (v:Nat))
  |none=>EL kvs (Sum.inl (k:Int):Key)
 | [],_,_,_=>rfl
 |x::g,kvs,k,nd=>by
  obtain⟨n1,n2⟩:=nodup_cons.mp nd;show EL (Kl (putK kvs (Sum.inl (x.1:Int)) (V.int (x.2:Nat))) (we g)) _=_;rw[mD g _ k n2,lookup_cons,qC];by_cases e:k=x.1
  ·subst e;have:g.lookup x.1=none:=by
    cases h:g.lookup x.1 with
    |none=>rfl
    |some v=>exact absurd (mem_map.mpr ⟨_,Mt.lookup_mem h,rfl⟩) n1
   rw[this,beq_self_eq_true];simp
  ·rw[show (k==x.1)=false by rw[beq_eq_false_iff_ne];exact e];cases g.lookup k with
   |some v=>rfl
   |none=>simp only;rw[if_neg (λz=>e (Int.natCast_inj.mp (Sum.inl.inj z)))]
section
theorem QK.mono{f:Leaf}(h:QK t H a f)(k:AR H H'):QK t H' a f:=let ⟨dx,g,gs,h1,h2,h3,h4⟩:=h;⟨dx,g,gs,k _ _ h1,k _ _ h2,h3,λi b x hb hx=>k _ _ (h4 i b x hb hx)⟩
inductive MY(t:Bz)(vs:List V)(H:Hp)(Q:VK)(E:XK):Prop | mk:∀(a b:Addr) (f h:Leaf),vs=[.ref a,.ref b]->QK t H a f->QK t H b h->Mt.oB h->(∀H',AR H H'->Q (.bl (apart f h)) H')->MY t vs H Q E
theorem Vz:FT P w AJ T 1 t.Hy t.Hz ["leaf","other"] (MY t):=by
 refine T.IL.Cr MU ?_;rintro _ A _ s H _ Q E hr ⟨a,b,f,h,rfl,⟨da,ga,gas,a1,a2,a3,a4⟩,⟨db,gb,gbs,b1,b2,b3,b4⟩,gd,q⟩;have nd:=MU.nd;refine⟨_,(AD (ps_sl 2 nd (CM (jQ rfl) rfl T.vk boot_dict (AB (AQ (pv 1) rfl) AE)))
   (AD (JL PassesOwn.never rfl (Cb (AQ (pv 0) rfl)) (Yd rfl (CU (A8 (i:=3) nd rfl (Or.inl rfl)) (CU (A8 (i:=4) nd rfl (Or.inl rfl)) Lq))) (AH (Ay (AU FV (qE (YZ hr) (pv 2) (pv 3) (pv 4) ⟨rfl,rfl,rfl,rfl⟩) (pv 4) (AY _)) (AH (AO kH)) AX)))
   (AH (AO kH)))),?_⟩
 walk_at "rd";rw[Mt.jf gd] at q;have hpair:Paired (λp kv=>YO K H p [kV kv.1,kv.2]) gbs (we h.guards):=by
  clear q b1 b2 gd;unfold we;generalize h.guards=g at b3 b4 ⊢;induction gbs generalizing g with
  |nil=>cases g with
   |nil=>exact .nil
   |cons x g=>cases b3
  |cons c cs ih=>cases g with
   |nil=>cases b3
   |cons x g=>rw[map_cons];refine .cons ?_ (ih g (by simpa using b3) λi b y hb hy=>b4 (i+1) b y (by simpa using hb) (by simpa using hy));exact YO.of (b4 0 c x rfl rfl)
 refine⟨_,⟨_,_,_,b1,T.D6,T.NO,rfl⟩,gb,rfl,gbs,A4.of b2,_,hpair,λp n=> ?_⟩;have s1:=AR.upd (o:=HO.dK (Kl [] (we h.guards))) n;refine⟨_,⟨_,_,_,s1 _ _ a1,T.D6,T.NO,rfl⟩,ga,rfl,⟨_,A4.of (s1 _ _ a2)⟩,?_⟩;refine Kr (xs:=gas.map V.ref) (λi σ H'=>H'=upd H p (HO.dK (Kl [] (we h.guards)))/\(∃v3 v4,σ=[some (.ref a),some (.ref b),some (.ref p),v3,v4])/\(f.guards.drop i).any (λp=>decide ((h.guards.lookup p.1).getD p.2≠p.2))=f.guards.any λp=>decide ((h.guards.lookup p.1).getD p.2≠p.2))
  ⟨rfl,⟨none,none,rfl⟩,rfl⟩ (λi σ H' _ pv=>by rw[pv.1];exact A4.of (s1 _ _ a2)) (λi v σ H' hv pv=> ?_) λσ H' pv=> ?_
 ·obtain⟨rfl,⟨v3,v4,rfl⟩,hd⟩:=pv;obtain⟨c,hc,rfl⟩:=CV hv;have hi:i<f.guards.length:=by rw[<-a3];exact(List.getElem?_eq_some_iff.mp hc).1
  obtain⟨x,hx⟩:∃x,f.guards[i]?=some x:=⟨_,getElem?_eq_getElem hi⟩;have hdr:f.guards.drop i=x::f.guards.drop (i+1):=by obtain⟨h5,h6⟩:=List.getElem?_eq_some_iff.mp hx;rw[List.drop_eq_getElem_cons h5,h6]
  rw[hdr,any_cons] at hd;refine⟨c,_,rfl,YO.of (s1 _ _ (a4 i c x hc hx)),rfl,_,_,rfl,_,_,rfl,rfl,?_⟩;walk_at "rd";have ev:=mD h.guards [] x.1 gd;refine⟨.inl ⟨_,.inl AG⟩,_,SV.k (k:=Sum.inl (x.1:Int)) AG,?_⟩;rw[ev];have eo:Option.getD (match h.guards.lookup x.1 with | some v=>some (V.int (v:Nat)) | none=>EL [] (Sum.inl (x.1:Int):Key)) (V.int (x.2:Nat))=V.int ((h.guards.lookup x.1).getD x.2:Nat):=by cases h.guards.lookup x.1<;>rfl
  rw[eo];refine⟨rfl,Az (λz=> ?_) λz=> ?_⟩
  ·rw[decide_eq_true (show (h.guards.lookup x.1).getD x.2≠x.2 from λe=>z (by rw[e])),Bool.true_or] at hd;rw[<-hd] at q;exact q _ s1
  ·have z:(h.guards.lookup x.1).getD x.2=x.2:=Int.natCast_inj.mp (V.int.inj (Classical.not_not.mp z));rw[decide_eq_false (λe=>e z),Bool.false_or] at hd;exact⟨⟨_,rfl⟩,hd⟩
 ·obtain⟨rfl,⟨v3,v4,rfl⟩,hd⟩:=pv;rw[length_map,a3,drop_length] at hd;rw[<-hd] at q;exact q _ s1
inductive Vi(t:Bz)(vs:List V)(H:Hp)(Q:VK)(E:XK):Prop | mk:∀(L:Addr) (as:List Addr) (ls:List Leaf) (i:Nat),vs=[.ref L,.int i]->H L=some (.lst (as.map V.ref))->Fb t H as ls->(∀f∈ls,Mt.oB f)->ls.length<=24->i<ls.length->(∀H' p,H p=none->AR H H'->H' p=some (.lst ((Bj ls i).map λj=>V.int (j:Nat)))->Q (.ref p) H')->Vi t vs H Q E
theorem fF:FT P w AJ T 2 t.Qo t.Qp ["leaves","number"] (Vi t):=by
 refine T.Q7.Cr VX ?_;rintro _ A _ s H _ Q E hr ⟨L,as,ls,i,rfl,h1,h2,h3,h4,h5,q⟩;have nd:=VX.nd;refine⟨_,(AD (ps_sl 2 nd (BU AE))
   (AD (JL PassesOwn.never rfl (Nk rfl T.SI (AB (AZ Ak rfl T.B7 PySem.boot_len (AB (pv 0) AE)) AE)) (A8 (i:=3) nd rfl (Or.inl rfl)) (AH (Ay (PW.pt (JK (AU FV (pv 3) (pv 1) (AY _)) (Fo (Mc (Mb (AV (Vz T) hr.lt rfl T.Wh T.IL.kp (Wl T) .nil AK (AB (BY Av (pv 0) (pv 1) (λ_ _=>rfl)) (AB (BY Av (pv 0) (pv 3) (λ_ _=>rfl)) AE)))))))) (AH (Au (Ua PySem.F.plainAttrs_list PySem.F.slot_list_append PySem.F.type_list_append Ht (pv 2) (AB (pv 3) AE)))) AX)))
   (AH (AO (pv 2))))),?_⟩
 walk_at "rd";refine⟨zero_le _,λp n=> ?_⟩;have s1:=AR.upd (o:=HO.lst []) n;have sm:∀{H':Hp} {o:HO},AR H H'->AR H (upd H' p o):=λs c u e=>by rw[AM (λz=>by rw[z,n] at e;cases e)];exact s _ _ e
 refine⟨L,rfl,_,.inl (A4.of (s1 _ _ h1)),(ls.length:Int),by rw[length_map,h2.1],by lia,by lia,?_⟩;rw[Int.toNat_natCast];have leafs:∀(H':Hp) (j:Nat) (f:Leaf),AR H H'->ls[j]?=some f->∃a,iR (as.map V.ref) (j:Int)=some (.ref a)/\QK t H' a f:=λH' j f s hf=>by obtain⟨a,ea⟩:∃a,as[j]?=some a:=⟨_,getElem?_eq_getElem (by rw[h2.1];exact(List.getElem?_eq_some_iff.mp hf).1)⟩;exact⟨a,Fp (by rw[getElem?_map,ea];rfl),(h2.2 j a f ea hf).mono s⟩
 obtain⟨x,hx⟩:∃x,ls[i]?=some x:=⟨_,getElem?_eq_getElem h5⟩;have er:∀n,n<ls.length->∀y,ls[n]?=some y->(List.range (n+1)).filter (λj=>decide (j≠i) && !(match ls[i]?,ls[j]? with | some a,some b=>apart a b | _,_=>false))=(List.range n).filter (λj=>decide (j≠i) && !(match ls[i]?,ls[j]? with | some a,some b=>apart a b | _,_=>false))++if n≠i/\apart x y=false then [n] else []:=λn hn y hy=>by rw[range_succ,filter_append];congr 1;rw[filter_cons,List.filter_nil,hx,hy];simp
 refine V9 (n:=ls.length) (λk σ H'=>AR H H'/\H' p=some (.lst (((List.range k).filter λj=>decide (j≠i) && !(match ls[i]?,ls[j]? with | some a,some b=>apart a b | _,_=>false)).map λj=>V.int (j:Nat)))/\∃v,σ=[some (.ref L),some (.int i),some (.ref p),v])
  ⟨s1,AG,none,rfl⟩ (λk σ H' hk pv=> ?_) λσ H' pv=> ?_
 ·obtain⟨s2,e2,v,rfl⟩:=pv;obtain⟨y,hy⟩:∃y,ls[k]?=some y:=⟨_,getElem?_eq_getElem hk⟩;have ek:=er k hk y hy;walk_at "rd";rw[ek,Int.zero_add];have fl:((List.range k).filter λj=>decide (j≠i) && !(match ls[i]?,ls[j]? with | some a,some b=>apart a b | _,_=>false)).length<=24:=by
   refine Nat.le_trans (length_filter_le _ _) ?_;rw[length_range];lia
  refine⟨rfl,Az (λz=> ?_) λz=> ?_⟩
  ·obtain⟨a1,i1,l1⟩:=leafs H' i x s2 hx;obtain⟨a2,i2,l2⟩:=leafs H' k y s2 hy;refine⟨_,⟨_,A4.of (s2 _ _ h1),i1⟩,_,⟨_,A4.of (s2 _ _ h1),i2⟩,a1,a2,x,y,rfl,l1,l2,h3 y (mem_of_getElem? hy),λH2 s3=>⟨_,rfl,Az (λz2=> ?_) λz2=> ?_⟩⟩
   ·refine⟨.inl ⟨rfl,_,A4.of (s3 _ _ e2)⟩,_,s3 _ _ e2,by rw[length_map,sizeLine_eq];lia,sm (s2.trans s3),?_,_,rfl⟩;rw[AG,if_pos ⟨by lia,z2⟩,map_append];rfl
   ·refine⟨s2.trans s3,?_,_,rfl⟩;rw[s3 _ _ e2,if_neg (λe=>z2 e.2),append_nil]
  ·refine⟨s2,?_,_,rfl⟩;rw[e2,if_neg (λe=>z (by have:=e.1;lia)),append_nil]
 ·obtain⟨s2,e2,v,rfl⟩:=pv;exact q H' p n s2 e2
inductive Rn(t:Bz)(vs:List V)(H:Hp)(Q:VK)(E:XK):Prop | mk:∀(r dx lf:Addr) (x:Str) (bs:List Addr) (fs:Ty) (H0:Hp),vs=[.ref r,.str x,.ref lf]->H r=some (.ins t.BD dx [])->H0 r=none->AR H0 H->H0 lf=some (.lst (bs.map V.ref))->Rep t H0 fs (.fld bs)->Mt.wf (.rec_ fs) 6->Mt.dep fs<=42->countLeaves fs<=24->(∀H',AR H0 H'->Rep t H' (.rec_ fs) (.rc r x)->Q .Fn H')->Rn t vs H Q E
theorem Z5:FT P w AJ T 90 t.Mw t.Mx ["self","name","fields"] (Rn t):=by
 refine T.TF.Cr Rb ?_;rintro _ A _ s H _ Q E hr ⟨r,dx,lf,x,bs,fs,H0,rfl,h1,h2,h3,h4,h5,h6,h7,h8,q⟩;have nd:=Rb.nd;refine⟨_,(AD (BZ (pv 0) (pv 1) rfl)
   (AD (BZ (pv 0) (pv 2) rfl)
   (AD (BZ (pv 0) (BU AE) rfl)
   (AD (Au (Ac (pv 0) T.Ao T.TC (Z4 T) hr.lt (Tc T) .nil AK (AB (AQ (pv 0) rfl) (AB (BU AE) AE))))
   (AH (BZ (pv 0) (Jk (own:=[("number",3)]) rfl nd (Nk rfl T.SI (AB (AZ Ak rfl T.B7 PySem.boot_len (AB (AQ (pv 0) rfl) AE)) AE)) (B4 rfl) (λ_ _ _ _ _=>(A8 (i:=3) nd rfl (Or.inl rfl) (.inr rfl))) (λ_ _ _ _ _=>Ct) (λ_ _ _ _ _=>(AV (fF T) hr.lt rfl T.hX T.Q7.kp (iD T) .nil AK (AB (OV (K:=K) (pv 0) rfl rfl) (AB (pv 3) AE))))) rfl)))))),?_⟩
 walk_at "rd";refine⟨_,⟨_,_,_,h1,T.Ao,T.Ie,(by show 0<1000;decide),rfl⟩,_,⟨_,_,_,AG,T.Ao,T.Fs,(by show 1<1000;decide),rfl⟩,zero_le _,λL nL=> ?_⟩;rw[BR] at nL ⊢;have hLr:L≠r:=λz=>by rw[z,AG] at nL;cases nL
 have hLH:H L=none:=by rw[AM hLr] at nL;exact nL
 have hL0:H0 L=none:=h3.free hLH;refine⟨_,⟨_,_,_,by rw[AM (Ne.symm hLr)];exact AG,T.Ao,T.Ap,(by show 2<1000;decide),rfl⟩,?_⟩;have sm3:AR H0 (upd (upd (upd H r (HO.ins t.BD dx (Cg (Str.ofString "fields") (V.ref lf) (Cg (Str.ofString "name") (V.str x) [])))) L (HO.lst [])) r (HO.ins t.BD dx (Cg (Str.ofString "leaves") (V.ref L) (Cg (Str.ofString "fields") (V.ref lf) (Cg (Str.ofString "name") (V.str x) []))))):=λb o e=>by
  have br:b≠r:=λz=>by rw[z,h2] at e;cases e
  have bL:b≠L:=λz=>by rw[z,hL0] at e;cases e
  rw[AM br,AM bL,AM br];exact h3 _ _ e
 have r3:(upd (upd (upd H r (HO.ins t.BD dx (Cg (Str.ofString "fields") (V.ref lf) (Cg (Str.ofString "name") (V.str x) [])))) L (HO.lst [])) r (HO.ins t.BD dx (Cg (Str.ofString "leaves") (V.ref L) (Cg (Str.ofString "fields") (V.ref lf) (Cg (Str.ofString "name") (V.str x) []))))) r=some (HO.ins t.BD dx [("name",.str x),("fields",.ref lf),("leaves",.ref L)]):=AG;have l3:(upd (upd (upd H r (HO.ins t.BD dx (Cg (Str.ofString "fields") (V.ref lf) (Cg (Str.ofString "name") (V.str x) [])))) L (HO.lst [])) r (HO.ins t.BD dx (Cg (Str.ofString "leaves") (V.ref L) (Cg (Str.ofString "fields") (V.ref lf) (Cg (Str.ofString "name") (V.str x) []))))) L=some (HO.lst []):=by rw[AM hLr];exact AG
 generalize (upd (upd (upd H r (HO.ins t.BD dx (Cg (Str.ofString "fields") (V.ref lf) (Cg (Str.ofString "name") (V.str x) [])))) L (HO.lst [])) r (HO.ins t.BD dx (Cg (Str.ofString "leaves") (V.ref L) (Cg (Str.ofString "fields") (V.ref lf) (Cg (Str.ofString "name") (V.str x) [])))))=H3 at sm3 r3 l3 ⊢;refine⟨⟨_,_,r3,rfl⟩,_,⟨_,_,_,r3,T.Ao,T.Ap,rfl⟩,zero_le _,λp np=> ?_⟩;have s4:=AR.upd (o:=HO.lst []) np;have pL:p≠L:=λz=>by rw[z,l3] at np;cases np
 refine⟨r,L,p,lf,dx,bs,fs,H0,[],[],_,rfl,s4 _ _ r3,rfl,h4,h5,⟨hL0,sm3.trans s4,s4 _ _ l3,⟨[],AG,rfl,λi b x z=>by cases z⟩,pL⟩,h6.2,h7,by show 0+_<=24;lia,by decide,λH5 new k5 e5 lf5=> ?_⟩;have r5:=k5.ux (s4 _ _ l3) (s4 _ _ r3);have s5:AR H0 H5:=λb o e=>k5 b o (λz=>by rw[z,hL0] at e;cases e) (s4 _ _ (sm3 _ _ e));have la:Fb t H5 new (leavesOf (.rec_ fs)):=by have l6:=lf5 [] 1;refine⟨l6.1,λi a f ha hf=> ?_⟩;obtain⟨dl,G,g1,_,gs,g2,g3,g4⟩:=l6.2 i a f ha hf;exact⟨dl,G,gs,g1,g2,g3,g4⟩
 have ln:(leavesOf (.rec_ fs)).length=countLeaves fs:=Mt.Dd ..;have nl:new.length=countLeaves fs:=by rw[la.1,ln]
 have e5:H5 L=some (.lst (new.map V.ref)):=e5;refine⟨_,⟨_,_,_,r5,T.Ao,T.Ap,rfl⟩,L,rfl,_,.inl (A4.of e5),(new.length:Int),by rw[length_map],by lia,by lia,λD hD=> ?_⟩;rw[Int.toNat_natCast];refine fo (n:=new.length) (λk H'=>AR H5 H'/\∃rs:List Addr,H' D=some (.lst (rs.map V.ref))/\rs.length=k/\∀(i:Nat) (a:Addr),rs[i]?=some a->H' a=some (.lst ((Bj (leavesOf (.rec_ fs)) i).map λj=>V.int (j:Nat)))/\a≠D) ⟨AR.upd hD,[],AG,rfl,λi a z=>by cases z⟩ (λk H' hk pv=> ?_) λH' pv=> ?_
 ·obtain⟨s6,rs,e6,rl,hr6⟩:=pv;refine⟨rfl,_,⟨_,_,_,s6 _ _ r5,T.Ao,T.Ap,rfl⟩,L,new,_,k,by rw[Int.zero_add];rfl,s6 _ _ e5,la.mono (KO.of s6),Mt.hU _,by lia,by lia,λH7 p7 n7 s7 e7=> ?_⟩;have p7D:p7≠D:=λz=>by rw[z,e6] at n7;cases n7
  refine⟨_,s7 _ _ e6,by rw[length_map,sizeLine_eq];lia,λb o e=> ?_,rs++ [p7],by rw[AG,map_append];rfl,by simp[rl],λi a ha=> ?_⟩
  ·rw[AM (λz=>by rw[z,hD] at e;cases e)];exact s7 _ _ (s6 _ _ e)
  ·rcases lt_or_ge i rs.length with z | z
   ·rw[getElem?_append_left z] at ha;obtain⟨q1,q2⟩:=hr6 i a ha;exact⟨by rw[AM q2];exact s7 _ _ q1,q2⟩
   ·rw[getElem?_append_right z] at ha;cases ei:i - rs.length with
    |zero=>
     rw[ei] at ha;cases ha;have:i=k:=by lia
     subst this;exact⟨by rw[AM p7D];exact e7,p7D⟩
    |succ j=>rw[ei] at ha;cases ha
 ·obtain⟨s6,rs,e6,rl,hr6⟩:=pv;have r6:=s6 _ _ r5;refine⟨_,⟨_,_,_,r6,T.Ao,T.Je,(by show 3<1000;decide),rfl⟩,q _ (λb o e=> ?_) ?_⟩
  ·rw[AM (λz=>by rw[z,h2] at e;cases e)];exact s6 _ _ (s5 _ _ e)
  ·have nr:∀{c:Addr} {o:HO},c≠r->H' c=some o->(upd H' r (HO.ins t.BD dx (Cg (Str.ofString "rivals") (V.ref D) [("name",V.str x),("fields",V.ref lf),("leaves",V.ref L)]))) c=some o:=λn e=>by rw[AM n];exact e
   have nrl:∀{c:Addr} {xs:List V},H' c=some (.lst xs)->c≠r:=λe z=>by rw[z,r6] at e;cases e
   have nrt:∀{c:Addr} {xs:List V},H' c=some (.tup xs)->c≠r:=λe z=>by rw[z,r6] at e;cases e
   have g2:=s6 _ _ (s5 _ _ h4);refine⟨dx,lf,L,D,bs,new,rs,AG,nr (nrl g2) g2,nr (nrl (s6 _ _ e5)) (s6 _ _ e5),nr (nrl e6) e6,⟨la.1,λi a f ha hf=> ?_⟩,⟨by rw[rl,la.1],λi a ha=> ?_⟩,h5.mono (KO.of λb o e=>nr (λz=>by rw[z,h2] at e;cases e) (s6 _ _ (s5 _ _ e)))⟩
   ·obtain⟨dl,g,gs,g1,g2,g3,g4⟩:=(la.mono (KO.of s6)).2 i a f ha hf;exact⟨dl,g,gs,nr (Yp (n:=Ub) (m:=["name","fields","leaves"]) g1 r6 rfl rfl (by decide+kernel)) g1,nr (nrl g2) g2,g3,λi b x hb hx=>nr (nrt (g4 i b x hb hx)) (g4 i b x hb hx)⟩
   ·have:=(hr6 i a ha).1;exact nr (nrl this) this
end
section
theorem pW(rs:List Rec):∀(n:Nat) (fs:List (PName×Nat×Ty)) (l r:Toks) (ty:Ty),tf rs n fs l= .ok (ty,r)->∃zs,ty= .rec_ (Valaya.rowOf zs)/\zs.length<=fs.length+n
 | 0,_,_,_,_,h=>by cases h
 |n+1,fs,l,r,ty,h=>by
  rw[oE] at h;split at h
  ·cases h;exact⟨fs,rfl,by lia⟩
  ·obtain⟨x,_,h⟩:=Aw h;split at h
   ·cases h
   ·obtain⟨m,_,h⟩:=Aw h;obtain⟨t',_,h⟩:=Aw h;obtain⟨k,_,h⟩:=Aw h;obtain⟨m',_,h⟩:=Aw h;obtain⟨zs,e,hl⟩:=pW rs n _ _ _ _ h;exact⟨zs,e,by rw[length_append] at hl;simp only[length_cons,length_nil] at hl;lia⟩
def Ud(rs:List Rec)(l:Toks):Except Fault (Rec×Toks):=(takeWord "record" l).bind λr=>(takeName r).bind λx=>
 if rs.any (λy=>y.x.name==x.1.name)=true then .error ⟨5,x.1.place⟩ else(takeSign 123 x.2).bind λm=>(tf rs (m.length+1) [] m).bind λz=>(takeSign 125 z.2).bind λm2=>if LEAVES<countLeaves z.1 then .error ⟨15,here l⟩ else .ok (⟨x.1,here l,z.1⟩,m2)
theorem jH{l:Toks}:takeRecs (n+1) rs l=if ValayBase.next .last l=true/\rs.isEmpty=false then .ok rs else
  if nextWord "record" l=true/\RECORDS<=rs.length then .error ⟨4,here l⟩ else(Ud rs l).bind λz=>takeRecs n (rs++ [z.1]) z.2:=by
 show (if ValayBase.next .last l=true/\rs.isEmpty=false then _ else _)=_;by_cases h:ValayBase.next .last l=true/\rs.isEmpty=false
 ·rw[if_pos h,if_pos h]
 rw[if_neg h,if_neg h];unfold Ud;by_cases h2:nextWord "record" l=true
 ·have e:takeWord "record" l= .ok (l.drop 1):=if_pos h2;rw[e];show (if RECORDS<=rs.length then _ else _)=_;by_cases h3:RECORDS<=rs.length
  ·rw[if_pos h3,if_pos ⟨h2,h3⟩]
  ·rw[if_neg h3,if_neg (λz=>h3 z.2)];show (takeName (l.drop 1)).bind _=((takeName (l.drop 1)).bind _).bind _;rw[DJ];congr 1;funext x;by_cases h4:rs.any (λy=>y.x.name==x.1.name)=true
   ·rw[if_pos h4,if_pos h4];rfl
   ·rw[if_neg h4,if_neg h4,DJ];congr 1;funext m;rw[SS,DJ,DJ];congr 1;funext z;rw[DJ,DJ];congr 1;funext m2;show (if LEAVES<countLeaves z.1 then _ else _)=_;by_cases h5:LEAVES<countLeaves z.1
    ·rw[if_pos h5,if_pos h5];rfl
    ·rw[if_neg h5,if_neg h5];rfl
 ·have e:takeWord "record" l= .error ⟨3,here l⟩:=if_neg h2;rw[e,if_neg (λz=>h2 z.1)];rfl
theorem BQ.yK{α β:Type}{R:Hp->V->α->Prop}{R0:Hp->V->β->Prop}{r:Except Fault (α×Toks)}{f:α×Toks->Except Fault (β×Toks)}(st:Hg t H p dx l d ts as i x)(k0:Kp p H0 H)(q:BQ t E Q H0 p dx l d ts R0 (r.bind f))
  (k:∀v H' j y a,Kp p H H'->Hg t H' p dx l d ts as j y->r= .ok (a,ts.drop j)->R H' v a->BQ t E Q H0 p dx l d ts R0 (f (a,ts.drop j))->Q' v H'):BQ t E Q' H p dx l d ts R r:=by
 cases r with
 |error f=>exact Gi.kp q k0
 |ok a=>
  intro v H1 j k1 k2 k3 k4 k5;obtain⟨y,s1,_⟩:=st.next k1 k2 k3
  exact k v H1 j y a.1 k1 s1 (by rw[k4]) k5 (by rw[k4];exact q)
theorem Bl.nm(h:Bl t H d rs):wb H d (rs.map λz=>strOf z.x.name):=by obtain⟨za,e,hd,_⟩:=h;refine⟨_,hd,?_⟩;rw[<-e];simp only[map_map];rfl
theorem eE{b:Bytes}:rs.any (λa=>a.x.name==b)=true↔strOf b∈rs.map λz=>strOf z.x.name:=by
 rw[any_eq_true,mem_map];constructor
 ·rintro⟨z,m,e⟩;exact⟨z,m,by rw[beq_iff_eq.mp e]⟩
 ·rintro⟨z,m,e⟩;exact⟨z,m,beq_iff_eq.mpr (Nu e)⟩
inductive isRec(t:Bz)(H:Hp)(v:V)(r:Rec):Prop | mk:∀a,v= .ref a->Rep t H r.t (.rc a (strOf r.x.name))->isRec t H v r
inductive LF(t:Bz)(vs:List V)(H:Hp)(Q:VK)(E:XK):Prop | mk:∀p dx l d ts as i x rs,vs=[.ref p]->Hg t H p dx l d ts as i x->Bl t H d rs->(nextWord "record" (ts.drop i)=true->∀r∈rs,Mt.YS 35 r)->Mt.Gh ts->ts.length<=100000->BQ t E Q H p dx l d ts (isRec t) (Ud rs (ts.drop i))->LF t vs H Q E
theorem QA:FT P w AJ T 92 t.Ea t.Eb ["self"] (LF t):=by
 refine T.JD.Xg Hn ?_;rintro _ A _ s H _ Q E hr ⟨p,dx,l,d,ts,as,i,x,rs,rfl,st,hR,BL,hnm,tl,q⟩;have nd:=Hn.nd;refine⟨_,(AD (ps_sl 1 nd (AQ (BY Av (AQ (pv 0) rfl) (AQ (pv 0) rfl) (λ_ _=>rfl)) rfl))
   (AD (Au (Ac (pv 0) T.AL T.Aq (Am T) hr.lt (Ar T) .nil (Ag λ_ _ z=>z) (AB Ah AE)))
   (AD (ps_sl 2 nd (Ac (pv 0) T.AL T.Dl (DZ T) hr.lt (Dn T) .nil (Ag λ_ _ z=>z) (AB (AQ (pv 0) rfl) AE)))
   (AD (Au (Ac (pv 0) T.AL T.Aq (Am T) hr.lt (Ar T) .nil (Ag λ_ _ z=>z) (AB Ah AE)))
   (AD (ps_sl 3 nd (Ad (pv 0) T.AL T.Rz (P9 T) hr.lt (R5 T) .nil (Ag λ_ _ z=>z)))
   (AD (Au (Ac (pv 0) T.AL T.Aq (Am T) hr.lt (Ar T) .nil (Ag λ_ _ z=>z) (AB Ah AE)))
   (AD (Ay (AU UZ (AZ (dI rfl) rfl T.kT boot_sum (AB (Jk (own:=[("field",4)]) rfl nd (Cb (pv 3)) (B4 rfl) (λ_ _ _ _ _=>(A8 (i:=4) nd rfl (Or.inl rfl) (.inr rfl))) (λ_ _ _ _ _=>Ct) (λ_ _ _ _ _=>(Cf (by exact(OV (K:=K) (pv 4) rfl rfl)) (bK T) hr.lt AK))) AE)) (A9 T.ah) (AY _)) (AH (Gn T.FK T.FN T.KC (CB T) hr.lt (Cc T) rfl T.IX (AB (A9 T.Vs) (AB (pv 1) AE)))) AX)
   (AH (AO (CL T.qf (Z5 T) hr.lt rfl T.qY (au T) .nil AK (AB (pv 2) (AB (pv 3) AE)))))))))))),?_⟩
 walk_at "rd";obtain⟨x',a,ex',ea,ai,dt,eh⟩:=st.toiS.fR;rw[st.Ce] at ex';cases ex';refine⟨_,⟨_,_,_,st.at_,T.AL,T.Bb,rfl⟩,_,⟨_,_,_,st.at_,T.AL,T.BH,rfl⟩,l,rfl,_,rfl,_,⟨_,A4.of st.tok.lst,ai⟩,a,rfl,_,⟨_,_,_,eh,T.Eo,T.Ig,rfl⟩,?_⟩;unfold Ud at q;refine IZ st Fw.ne (λh0 H1 y1 k1 s1=> ?_) λh0=> ?_
 rotate_left
 ·have e0:takeWord "record" (ts.drop i)= .error ⟨3,x.place⟩:=(EO st.Ce _).2 λz=>h0 ((SR Fw).mpr z);rw[e0] at q;exact q
 have e0:takeWord "record" (ts.drop i)= .ok (ts.drop (i+1)):=(EO st.Ce _).1 ((SR Fw).mp h0);have BL:=BL ((Ba Fw st).mpr h0);rw[e0] at q;have hR1:=Bl.kp st hR k1;refine⟨⟨_,_,s1.at_,rfl⟩,_,⟨_,_,_,s1.at_,T.AL,T.Bg,rfl⟩,(Oe s1 hR1.nm (λb eb nr hb H2 y2 k2 s2=> ?_) (λb eb nr hb=> ?_) (λhk=> ?_)).2⟩
 ·have q:BQ t E Q H p dx l d ts (isRec t) ((takeName (ts.drop (i+1))).bind _):=q;rw[(ER s1.Ce).1 b eb nr] at q;have q:BQ t E Q H p dx l d ts (isRec t) ((takeSign 123 (ts.drop (i+1+1))).bind λm=>(tf rs (m.length+1) [] m).bind λz=>(takeSign 125 z.2).bind λm2=>
    if LEAVES<countLeaves z.1 then .error ⟨15,here (ts.drop i)⟩ else .ok (⟨⟨y1.place,b⟩,here (ts.drop i),z.1⟩,m2)):=by
   have e:rs.any (λy=>y.x.name==b)≠true:=λz=>hb (eE.mp z);have q:BQ t E Q H p dx l d ts (isRec t) (if rs.any (λy=>y.x.name==b)=true then _ else _):=q;rw[if_neg e] at q;exact q
  refine Nv (tk:= .sign 123) s2 (k1.trans k2) (by decide+kernel) (λz=>BN) q λH3 y3 k3 s3 q=> ?_;have hR3:=Bl.kp s2 (Bl.kp s1 hR1 k2) k3;refine⟨⟨_,_,s3.at_,rfl⟩,p,dx,l,d,ts,as,_,y3,rs,_,rfl,s3,hR3,tl,(by rw[length_drop];lia),BQ.yK s3 ((k1.trans k2).trans k3) q λv H4 j4 y4 ty k4 s4 e4 hfl q=> ?_⟩;obtain⟨lf,fs,bs,rfl,rfl,hlf,hrep⟩:=hfl;have k04:=((k1.trans k2).trans k3).trans k4;refine IZ s4 (by decide+kernel) (λh5 H5 y5 k5 s5=> ?_) λh5=> ?_
  rotate_left
  ·have e5:takeSign 125 (ts.drop j4)= .error ⟨3,y4.place⟩:=(EO s4.Ce (.sign 125)).2 λz=>h5 (BN.mpr z);dsimp only at q;rw[e5] at q;exact Gi.kp q k04
  have e5:takeSign 125 (ts.drop j4)= .ok (ts.drop (j4+1)):=(EO s4.Ce (.sign 125)).1 (BN.mp h5);dsimp only at q;rw[e5] at q;have e6:=SS rs ((ts.drop (i+1+1+1)).length+1) [] (ts.drop (i+1+1+1));rw[e4] at e6;have e6:takeFields rs ((ts.drop (i+1+1+1)).length+1) [] (ts.drop (i+1+1+1))= .ok (.rec_ fs,ts.drop (j4+1)):=by rw[e6];show (takeSign 125 (ts.drop j4)).bind _=_;rw[e5];rfl
  obtain⟨_,wf6,cpos,dp6,_⟩:=Mt.SO BL _ _ _ _ _ (λz hz=>by cases hz) (hnm.drop _) e6;obtain⟨zs0,ez0,hzl⟩:=pW rs _ _ _ _ _ e4;have k05:=k04.trans k5;have hlf:=k5 _ _ (λz=>by rw[z,s4.at_] at hlf;cases hlf) hlf;have hrep:=hrep.kp k5 s4.at_ rfl;obtain⟨zs,rfl,hl,hz⟩:=hrep.fields;have ezl:zs.length<=100001:=by
   have e1:rowLength (Valaya.rowOf zs)=rowLength (Valaya.rowOf zs0):=by rw[Ty.rec_.inj ez0]
   rw[Mt.Cu,Mt.Cu] at e1;rw[e1];rw[length_drop] at hzl;simp only[length_nil] at hzl
   lia
  have q:BQ t E Q H p dx l d ts (isRec t) (if LEAVES<countLeaves (.rec_ (Valaya.rowOf zs)) then .error ⟨15,here (ts.drop i)⟩ else .ok (⟨⟨y1.place,b⟩,here (ts.drop i),.rec_ (Valaya.rowOf zs)⟩,ts.drop (j4+1))):=q;have dp6:Mt.dep (Valaya.rowOf zs)+1<=7+35:=dp6;refine⟨lf,rfl,⟨_,A4.of hlf⟩,λD hD=> ?_⟩;refine OS ((zs.map λz=>countLeaves z.2.2).map λ(c:Nat)=>V.int (c:Nat)) (by simp[hl]) (A4.of hlf) (by rw[length_map,hl,sizeLine_eq];lia) hD (λi x y H1 Q1 hx hy s1 q1=> ?_) λH6 s6 e7=> ?_
  ·obtain⟨b,hb,rfl⟩:=CV hx;obtain⟨c,hc,rfl⟩:=A5 hy;obtain⟨z,hz1,rfl⟩:=A5 hc;obtain⟨dy,b2,e3,hR⟩:=(hz i b z hb hz1).mono (KO.of s1);have hd:=KZ (mem_of_getElem? hz1);exact Ys hR kU (λR hR=>⟨_,⟨_,_,_,e3,T.En,T.D3,rfl⟩,hR⟩) ⟨b2,z.2.2,_,rfl,hR,(JN wf6.2 z (mem_of_getElem? hz1)).1,by lia,q1⟩
  ·refine⟨D,rfl,(zs.map λz=>countLeaves z.2.2).map λ(c:Nat)=>(c:Int),A4.of (by rw[e7];simp only[map_map];rfl),?_⟩;rw[U2,<-Hu];have k06:=k05.trans (Kp.of s6);have st6:H6 p=some (.ins t.Al dx (pF l (j4+1) d)):=s6 _ _ s5.at_;obtain⟨y6,s56,_⟩:=s5.next (Kp.of s6) st6 s5.lt
   refine Az (λz=> ?_) λz=> ?_
   ·rw[if_pos (show LEAVES<countLeaves (.rec_ (Valaya.rowOf zs)) from Int.ofNat_lt.mp z),SK st.Ce] at q;exact λdx H7 n7 e7 s7=>q dx H7 (k06.trans (Kp.of s7)) e7
   ·have z:¬LEAVES<countLeaves (Valaya.rowOf zs):=λe=>z (Int.ofNat_lt.mpr e);rw[if_neg (show ¬LEAVES<countLeaves (.rec_ (Valaya.rowOf zs)) from z)] at q;intro r dr nr ndr nrd;have z:¬24<countLeaves (Valaya.rowOf zs):=z;refine⟨r,dr,lf,_,bs,_,H6,rfl,AG,nr,AR.new nr ndr,s6 _ _ hlf,hrep.mono (KO.of s6),wf6,by lia,by lia,λH7 s7 rep7=>⟨rfl,?_⟩⟩;exact(BQ.kp q k06).new s56 s7 ⟨r,rfl,rep7⟩
 ·have e:rs.any (λy=>y.x.name==b)=true:=eE.mpr hb;have q:BQ t E Q H p dx l d ts (isRec t) ((takeName (ts.drop (i+1))).bind _):=q;rw[(ER s1.Ce).1 b eb nr] at q;have q:BQ t E Q H p dx l d ts (isRec t) (if rs.any (λy=>y.x.name==b)=true then _ else _):=q;rw[if_pos e] at q;exact Gi.kp q k1
 ·have q:BQ t E Q H p dx l d ts (isRec t) ((takeName (ts.drop (i+1))).bind _):=q;rw[(ER s1.Ce).2 hk] at q;exact Gi.kp q k1
inductive Ro(t:Bz)(vs:List V)(H:Hp)(Q:VK)(E:XK):Prop | mk:∀p dx l,vs=[.ref p,.ref l]->H p=some (.ins t.Al dx [])->(∀H' d,H d=none->Kp p H H'->H' p=some (.ins t.Al dx (pF l 0 d))->H' d=some (.dK [])->Q .Fn H')->Ro t vs H Q E
theorem Z6:FT P w AJ T 1 t.M0 t.M1 ["self","tokens"] (Ro t):=by
 refine T.TK.Cr Zx ?_;rintro _ A _ s H _ Q E hr ⟨p,dx,l,rfl,hp,q⟩;refine⟨_,(AD (BZ (pv 0) (pv 1) rfl)
   (AD (BZ (pv 0) Aj rfl)
   (AH (BZ (pv 0) Yx rfl)))),?_⟩
 walk_at "rd";refine⟨_,⟨_,_,_,hp,T.AL,T.Bb,(by show 0<1000;decide),rfl⟩,_,⟨_,_,_,AG,T.AL,T.BH,(by show 1<1000;decide),rfl⟩,?_⟩;rw[BR];intro d nd;have dp:d≠p:=λz=>by rw[z,AG] at nd;cases nd
 have ndH:H d=none:=by rw[AM dp] at nd;exact nd
 refine⟨_,⟨_,_,_,by rw[AM (Ne.symm dp)];exact AG,T.AL,T.Bg,(by show 2<1000;decide),rfl⟩,q _ d ndH (λb o n e=> ?_) AG (by rw[AM dp];exact AG)⟩;rw[AM n,AM (λz=>by rw[z,ndH] at e;cases e),AM n];exact e
end
section
theorem uZ(rs:List Rec):∀(n:Nat) (fs:List (PName×Nat×Ty)) (l r:Toks) (ty:Ty),tf rs n fs l= .ok (ty,r)->r.length<=l.length
 | 0,_,_,_,_,h=>by cases h
 |n+1,fs,l,r,ty,h=>by
  rw[oE] at h;split at h
  ·cases h;exact Nat.le_refl _
  ·obtain⟨⟨x,l1⟩,e1,h⟩:=Aw h;have t1:=U0 e1;split at h
   ·cases h
   ·obtain⟨m,e2,h⟩:=Aw h;have t2:=Et e2;obtain⟨⟨t',l3⟩,e3,h⟩:=Aw h;have t3:=V7 rs 6 _ _ _ e3;obtain⟨⟨k,l4⟩,e4,h⟩:=Aw h;have t4:=lq e4;obtain⟨m',e5,h⟩:=Aw h;have t5:=Et e5;have:=uZ rs n _ _ _ _ h;dsimp only at *
    lia
theorem wO{r:Rec}{l m:Toks}(hr:∀r∈rs,Mt.YS (7 * rs.length) r)(nl:Mt.Gh l)(h:Ud rs l= .ok (r,m)):Mt.YS (7 * (rs.length+1)) r/\Mt.Gh m/\m.length<l.length/\rs.any (λy=>y.x.name==r.x.name)=false:=by
 unfold Ud at h;obtain⟨l1,e1,h⟩:=Aw h;have n1:=Mt.FZ e1 nl;have t1:=Et e1;obtain⟨⟨x,l2⟩,e2,h⟩:=Aw h;obtain⟨n2,x2⟩:=Mt.Uj e2 n1;have t2:=U0 e2;dsimp only at h;split at h
 ·cases h
 rename_i hd;obtain⟨l3,e3,h⟩:=Aw h;have n3:=Mt.FZ e3 n2;have t3:=Et e3;obtain⟨⟨t4,l4⟩,e4,h⟩:=Aw h;obtain⟨l5,e5,h⟩:=Aw h;have e6:=SS rs (l3.length+1) [] l3;rw[e4] at e6;have e6:takeFields rs (l3.length+1) [] l3= .ok (t4,l5):=by rw[e6];show (takeSign 125 l4).bind _=_;rw[e5];rfl
 obtain⟨n4,w4,c4,d4,fs,rfl⟩:=Mt.SO hr _ _ _ _ _ (λz hz=>by cases hz) n3 e6;have t5:=Et e5;have t4:=uZ rs _ _ _ _ _ e4;dsimp only at h t5;split at h
 ·cases h
 rename_i h24;have h24:countLeaves (.rec_ fs)<=24:=le_of_not_lt h24;cases h;refine⟨⟨x2,w4,h24,c4,by show Mt.dep (.rec_ fs)<=_;lia,fs,rfl⟩,n4,by lia,?_⟩;simpa using hd
def uy(t:Bz)(E:XK)(Q:VK)(H:Hp)(p d:Addr)(r:Except Fault (List Rec)):Prop:=match r with
 | .error f=>Gi t.BC E (ny p d H) f.code f.place
 | .ok rs=>∀H' (l:Addr) (bs:List Addr),ny p d H H'->H' l=some (.lst (bs.map V.ref))->bs.length=rs.length->(∀(i:Nat) (a:Addr) (r:Rec),bs[i]?=some a->rs[i]?=some r->Rep t H' r.t (.rc a (strOf r.x.name)))->Q (.ref l) H'
theorem ny.of(k:ny p d H H')(k2:Kp p H' H1):ny p d H H1:=λb o b1 b2 e=>k2 b o b1 (k b o b1 b2 e)
theorem Gi.ub(h:Gi C E (ny p d H) c n)(k:ny p d H H'):Gi C E (Kp p H') c n:=λdx H1 s e=>h dx H1 (k.of s) e
inductive uz(t:Bz)(E:XK)(Q:VK)(H:Hp)(p dx l d:Addr)(ts:Toks)(as:List Addr)(σ:L2.St)(H':Hp):Prop | mk:∀(j:Nat) (y:PTok) (rs:List Rec) (f:Nat) (v1:Option V),σ=[some (.ref p),v1]->ny p d H H'->Hg t H' p dx l d ts as j y->Bl t H' d rs->(∀r∈rs,Mt.YS (7 * rs.length) r)->rs.length<=6->ts.length<=f+j->uy t E Q H p d (takeRecs f rs (ts.drop j))->uz t E Q H p dx l d ts as σ H'
inductive Pn(t:Bz)(vs:List V)(H:Hp)(Q:VK)(E:XK):Prop | mk:∀p dx l d ts as x,vs=[.ref p]->Hg t H p dx l d ts as 0 x->H d=some (.dK [])->Mt.Gh ts->ts.length<=100000->uy t E Q H p d (takeRecs (ts.length+1) [] ts)->Pn t vs H Q E
theorem PL:FT P w AJ T 93 t.EA t.EB ["self"] (Pn t):=by
 refine T.Hl.Xg Hd ?_;rintro _ A _ s H _ Q E hr ⟨p,dx,l,d,ts,as,x,rfl,s0,hd0,hnm,tl,q⟩;have nd:=Hd.nd;refine⟨_,(AD (FX PassesOwn.leaving (PW.pt (Wv (AU FV (Ad (pv 0) T.AL T.Ae (Ab T) hr.lt (Af T) .nil AK) Ah (AY _)) (QF (AU B3 (AZ Nq rfl T.B7 PySem.boot_len (AB (AQ (pv 0) rfl) AE)) Aj (AY _))))) (AD (Ay (PW.pt (JK (AU B3 (Ad (pv 0) T.AL T.Ae (Ab T) hr.lt (Af T) .nil AK) Ah (AY _)) (Fo (AU B3 (AZ Nq rfl T.B7 PySem.boot_len (AB (AQ (pv 0) rfl) AE)) (A9 T.Zq) (AY _))))) (AH (Au (Ac (pv 0) T.AL T.B9 (Bv T) hr.lt (CA T) .nil (Ag λ_ _ z=>z) (AB (A9 T.Od) AE)))) AX)
   (AD (ps_sl 1 nd (Ad (pv 0) T.AL T.Ry (QA T) hr.lt (R4 T) .nil (Ag λ_ _ z=>z)))
   (AH (df (YZ hr) (AQ (pv 0) rfl) (AQ (pv 1) rfl) (pv 1) rfl)))))
   (AH (AO (Yz rfl rfl T.Yn (AQ (pv 0) rfl))))),?_⟩
 walk_at "rd";refine bU (λσ H'=>∃(j:Nat) (y:PTok) (rs:List Rec) (f:Nat) (v1:Option V),σ=[some (.ref p),v1]/\ny p d H H'/\Hg t H' p dx l d ts as j y/\Bl t H' d rs/\rs≠ []/\kindOf y.tok=Str.ofString "end"/\1<=f/\
   uy t E Q H p d (takeRecs f rs (ts.drop j))) (λnx hnx=> ?_) ?_
 ·refine KY (uz t E Q H p dx l d ts as) (λ_ H'=>ts.length - fK H' p) ⟨0,x,[],_,none,rfl,λb o _ _ e=>e,s0,⟨[],rfl,hd0,λz m=>(by cases m)⟩,λr m=>(by cases m),zero_le _,by lia,q⟩ ?_;rintro σ H' ⟨j,y,rs,f,v1,rfl,kk,st,hR,BL,h6,hf,q⟩;walk_at "rd";have fpos:1<=f:=by have:=st.lt;lia
  obtain⟨f,rfl⟩:∃g,f=g+1:=⟨f - 1,by lia⟩;obtain⟨za,ez,hd,hz⟩:=id hR;have zl:((za.map λz=>((Sum.inr (strOf z.1.x.name):Key),V.ref z.2)).length:Int)=rs.length:=by rw[length_map,<-ez,length_map]
  have pd:p≠d:=λz=>by rw[<-z,st.at_] at hd;cases hd
  have rp:¬(ValayBase.next .last (ts.drop j)=true/\rs.isEmpty=false)->¬(nextWord "record" (ts.drop j)=true/\RECORDS<=rs.length)->
    Ij t.Al H' p (Str.ofString "read_record")/\LF t [V.ref p] H' (λx H1=>∃x_10,L2.Lo K H1 p (Str.ofString "records") x_10/\∃a,x=V.ref a/\∃x_14,L2.Lo K H1 a (Str.ofString "name") x_14/\∃a,x_10=V.ref a/\∃x_15,fN H1 a x_14 x x_15/\
     (uz t E Q H p dx l d ts as [some (V.ref p),some x] x_15/\ts.length - fK x_15 p<ts.length - fK H' p)) E:=λc1 c2=>by
   rw[jH,if_neg c1,if_neg c2] at q;by_cases c7:rs.length<=5
   ·refine⟨⟨_,_,st.at_,rfl⟩,p,dx,l,d,ts,as,j,y,rs,rfl,st,hR,λ_ r m=> ?_,hnm,tl,?_⟩
    ·have:=BL r m;exact⟨this.nm,this.ok,this.Hf,this.pos,by have:=this.dp;lia,this.rc⟩
    cases er:Ud rs (ts.drop j) with
    |error e=>rw[er] at q;exact Gi.ub q kk
    |ok z=>
     rw[er] at q;intro v H1 j1 k1 e1 j1l d1 ⟨a,ev,rep⟩;subst ev;obtain⟨y1,s1,_⟩:=st.next k1 e1 j1l
     obtain⟨zok,_,zlen,znew⟩:=wO BL (hnm.drop j) (r:=z.1) (m:=z.2) er;rw[<-d1,length_drop,length_drop] at zlen;have hR1:=Bl.kp st hR k1;obtain⟨za1,ez1,hd1,hz1⟩:=hR1;have ⟨fs,efs⟩:=zok.rc;obtain⟨da,lf,ll,lr,as',ls,rs',ar,_⟩:∃dx lf ll lr as ls rs,H1 a=some (.ins t.BD dx (oC (strOf z.1.x.name) lf ll lr))/\True:=by rw[efs] at rep;obtain⟨dx,lf,ll,lr,as,ls,rs,h,_⟩:=rep;exact⟨dx,lf,ll,lr,as,ls,rs,h,trivial⟩
     have hnew:EL (za1.map λz=>((Sum.inr (strOf z.1.x.name):Key),V.ref z.2)) (Sum.inr (strOf z.1.x.name):Key)=none:=by
      cases ev:EL (za1.map λz=>((Sum.inr (strOf z.1.x.name):Key),V.ref z.2)) (Sum.inr (strOf z.1.x.name):Key) with
      |none=>rfl
      |some v=>exfalso;have:=X7 ev;rw[map_map] at this;obtain⟨u,m,e⟩:=mem_map.mp this;have:rs.any (λy=>y.x.name==z.1.x.name)=true:=eE.mpr (mem_map.mpr ⟨u.1,by rw[<-ez1];exact mem_map.mpr ⟨u,m,rfl⟩,Sum.inr.inj e⟩);rw[znew] at this;cases this
     have zl1:za1.length=rs.length:=by rw[<-ez1,length_map]
     refine⟨_,⟨_,_,_,s1.at_,T.AL,T.Bg,rfl⟩,a,rfl,_,⟨_,_,_,ar,T.Ao,T.Ie,rfl⟩,d,rfl,_,fN.k (k:=Sum.inr (strOf z.1.x.name)) hd1 (by rw[length_map,zl1,sizeLine_eq];lia),?_⟩;rw[Yw _ hnew];have ko:=KO.uu (o:= .dK ((za1.map λz=>((Sum.inr (strOf z.1.x.name):Key),V.ref z.2))++ [(Sum.inr (strOf z.1.x.name),V.ref a)])) hd1;obtain⟨y6,s6⟩:=s1.jG (j:=j1) ko (by rw[AM pd];exact s1.at_) s1.lt;refine⟨⟨j1,y6,rs++ [z.1],f,_,rfl,λb o b1 b2 e=> ?_,s6,⟨za1++ [(z.1,a)],?_,?_,λu m=> ?_⟩,λr m=> ?_,?_,by lia,?_⟩,?_⟩
     ·rw[AM b2];exact k1 b o b1 (kk b o b1 b2 e)
     ·rw[map_append,ez1];rfl
     ·rw[AG,map_append];rfl
     ·rcases mem_append.mp m with m | m
      ·exact(hz1 u m).mono ko
      ·cases mem_singleton.mp m;exact rep.mono ko
     ·rw[length_append];rcases mem_append.mp m with m | m
      ·have:=BL r m;exact⟨this.nm,this.ok,this.Hf,this.pos,by have:=this.dp;simp only[length_cons,length_nil];lia,this.rc⟩
      ·cases mem_singleton.mp m;exact zok
     ·rw[length_append];show _+1<=6;lia
     ·rw[d1];exact q
     ·rw[s6.toiS.fK,st.toiS.fK];have:=s6.lt;lia
   ·have c8:RECORDS<=rs.length:=by show 6<=_;lia
    have c9:nextWord "record" (ts.drop j)≠true:=λz=>c2 ⟨z,c8⟩;have e9:Ud rs (ts.drop j)= .error ⟨3,here (ts.drop j)⟩:=by unfold Ud;have e:takeWord "record" (ts.drop j)= .error ⟨3,here (ts.drop j)⟩:=if_neg c9;rw[e];rfl
    rw[e9] at q;refine⟨⟨_,_,st.at_,rfl⟩,p,dx,l,d,ts,as,j,y,rs,rfl,st,hR,λz=>absurd z c9,hnm,tl,?_⟩;rw[e9];exact Gi.ub q kk
  have k3:kindOf y.tok≠Str.ofString "record"->¬(nextWord "record" (ts.drop j)=true/\RECORDS<=rs.length):=λh z=>h ((Ba Fw st).mp z.1);refine Er st ⟨rfl,Az (λh2=>NZ (Er st ⟨rfl,Az (λh3=> ?_) λh3=> ?_⟩)) λh2=> ?_⟩
  ·have h2:kindOf y.tok≠Str.ofString "end":=λz=>h2 (congrArg V.str z);have nc:¬(ValayBase.next .last (ts.drop j)=true/\rs.isEmpty=false):=λz=>h2 (Uz.mpr ((Ep st.Ce _).mp z.1));refine⟨_,⟨_,_,_,st.at_,T.AL,T.Bg,rfl⟩,d,rfl,_,hd,rfl,Az (λh4=> ?_) λh4=> ?_⟩
   ·rw[jH,if_neg nc,if_pos ⟨(Ba Fw st).mpr (V.str.inj h3),by show 6<=_;lia⟩,SK st.Ce] at q;exact Um (c:=4) st (Gi.ub q kk)
   ·exact rp nc λz=>h4 (by have:6<=rs.length:=z.2;lia)
  ·have h2:kindOf y.tok≠Str.ofString "end":=λz=>h2 (congrArg V.str z);have nc:¬(ValayBase.next .last (ts.drop j)=true/\rs.isEmpty=false):=λz=>h2 (Uz.mpr ((Ep st.Ce _).mp z.1));exact rp nc (k3 λz=>h3 (congrArg V.str z))
  ·have h2:kindOf y.tok=Str.ofString "end":=V.str.inj (Classical.not_not.mp h2);refine⟨_,⟨_,_,_,st.at_,T.AL,T.Bg,rfl⟩,d,rfl,_,hd,rfl,Az (λh3=>NZ (Er st ⟨rfl,Az (λh4=> ?_) λh4=> ?_⟩)) λh3=> ?_⟩
   ·have:=V.str.inj h4;rw[h2] at this;exact absurd this.symm Fw.ne
   ·have z0:rs=[]:=eq_nil_of_length_eq_zero (by lia);exact rp (λz=>by rw[z0] at z;cases z.2) (k3 λz=>h4 (congrArg V.str z))
   ·exact hnx _ _ ⟨j,y,rs,f+1,v1,rfl,kk,st,hR,λz=>h3 (by rw[zl,z];rfl),h2,fpos,q⟩
 ·rintro σ H' ⟨j,y,rs,f,v1,rfl,kk,st,hR,z0,hk,f1,q⟩;walk_at "rd";obtain⟨f,rfl⟩:∃g,f=g+1:=⟨f - 1,by lia⟩;rw[jH,if_pos ⟨(Ep st.Ce _).mpr (Uz.mp hk),by cases rs<;>first | exact absurd rfl z0 | rfl⟩] at q;obtain⟨za,ez,hd,hz⟩:=hR;refine⟨_,⟨_,_,_,st.at_,T.AL,T.Bg,rfl⟩,d,rfl,_,hd,λl1 n1=> ?_⟩;have s1:=AR.upd (o:=HO.lst (((za.map λz=>((Sum.inr (strOf z.1.x.name):Key),V.ref z.2))).map λz=>z.2)) n1;refine q _ l1 (za.map (·.2)) (kk.of (Kp.of s1)) (by rw[AG];simp only[map_map];rfl) (by rw[<-ez,length_map,length_map]) λi a r ha hr=> ?_;rw[<-ez] at hr;obtain⟨z1,h1,rfl⟩:=A5 ha;obtain⟨z2,h2,rfl⟩:=A5 hr;rw[h1] at h2;cases h2;exact(hz z1 (mem_of_getElem? h1)).mono (KO.of s1)
end
end Pr
namespace Pr
open PySem PySem.Spec PyProof.Rows L2
open Valaya (Ty Rec Leaf)
open Mt (wd Ki D4)
section
variable{ls:List Leaf}
structure n9(t:Bz)(H:Hp)(r:Addr)(ls:List Leaf)(dx lf ll lr:Addr)(x:Str)(as rs:List Addr):Prop where
 at_:H r=some (.ins t.BD dx (oC x lf ll lr))
 lv:H ll=some (.lst (as.map V.ref))
 rv:H lr=some (.lst (rs.map V.ref))
 la:Fb t H as ls
 ra:Il H rs ls
inductive V3(t:Bz)(H:Hp)(r:Addr)(ls:List Leaf):Prop | mk:∀dx lf ll lr x as rs,n9 t H r ls dx lf ll lr x as rs->V3 t H r ls
theorem n9.mono{dx lf ll lr:Addr}{x:Str}{as rs:List Addr}(h:n9 t H r ls dx lf ll lr x as rs)(k:AR H H'):n9 t H' r ls dx lf ll lr x as rs:=
 ⟨k _ _ h.at_,k _ _ h.lv,k _ _ h.rv,h.la.mono (KO.of k),h.ra.mono (KO.of k)⟩
theorem V3.mono(h:V3 t H r ls)(k:AR H H'):V3 t H' r ls:=let ⟨dx,lf,ll,lr,x,as,rs,h⟩:=h;⟨dx,lf,ll,lr,x,as,rs,h.mono k⟩
theorem Rep.Xh{x:Str}(h:Rep t H ty (.rc r x)):V3 t H r (leavesOf ty):=by
 cases ty with
 |rec_ fs=>obtain⟨dx,lf,ll,lr,as,ls,rs,h1,h2,h3,h4,h5,h6,_⟩:=h;exact⟨dx,lf,ll,lr,x,ls,rs,h1,h3,h4,h5,h6⟩
 |num lo hi al=>exact h.elim
 |maybe ty=>exact h.elim
 |many m ty=>exact h.elim
 |one_ fs=>exact h.elim
 |named x ty=>exact h.elim
 |nil=>exact h.elim
 |field x hh ty r=>exact h.elim
theorem n9.leaf{x:Str}{rs:List Addr}(h:n9 t H r ls dx lf ll lr x as rs){f:Leaf}(hf:ls[i]?=some f):
  ∃a dx g,iR (as.map V.ref) (i:Int)=some (.ref a)/\as[i]?=some a/\H a=some (.ins t.Kn dx (fY [.int (wd f:Nat),.int (f.align:Nat),.ref g])):=by
 obtain⟨hl,_⟩:=List.getElem?_eq_some_iff.mp hf;obtain⟨a,ea⟩:∃a,as[i]?=some a:=⟨_,getElem?_eq_getElem (by rw[h.la.1];exact hl)⟩;obtain⟨dx,g,gs,h1,_⟩:=h.la.2 i a f ea hf;exact⟨a,dx,g,Fp (by rw[getElem?_map,ea];rfl),ea,h1⟩
theorem n9.zX{x:Str}{rs:List Addr}(h:n9 t H r ls dx lf ll lr x as rs)(hi:i<ls.length):
  ∃a,iR (rs.map V.ref) (i:Int)=some (.ref a)/\H a=some (.lst ((Bj ls i).map λj=>V.int (j:Nat))):=by
 obtain⟨a,ea⟩:∃a,rs[i]?=some a:=⟨_,getElem?_eq_getElem (by rw[h.ra.1];exact hi)⟩;exact⟨a,Fp (by rw[getElem?_map,ea];rfl),h.ra.2 i a ea⟩
inductive Zd(vs:List V)(H:Hp)(Q:VK)(E:XK):Prop | mk:∀n:Nat,vs=[.int n]->Q (.int ((n+7) / 8:Nat)) H->Zd vs H Q E
theorem j6:FT P w AJ T 1 t.WH t.WI ["span"] Zd:=by refine T.WU.Cr jv ?_;rintro _ A _ s H _ Q E hr ⟨n,rfl,q⟩;refine⟨_,(AH (AO (An Ug (An Ca (pv 0) Aj) Aj))),?_⟩;walk_at "rd";exact⟨⟨by decide,by decide⟩,by rw[show ((n:Int)+7) / 8=((n+7) / 8:Nat) by lia];exact q⟩
inductive Ze(vs:List V)(H:Hp)(Q:VK)(E:XK):Prop | mk:∀s n w:Nat,vs=[.int s,.int n,.int w]->w<1000->1<=n->Q (.bl (crosses w s n)) H->Ze vs H Q E
theorem j7{w s:Nat}(hw:0<w)(hn:1<=n)(h:n<=w):(!decide ((s:Int) / (w:Int)=((s:Int)+n - 1) / w))=crosses w s n:=by rw[show (s:Int)+n - 1=((s+n - 1:Nat):Int) by lia,<-Int.natCast_ediv,<-Int.natCast_ediv,Bool.eq_iff_iff,Mt.CC];simp only[Bool.not_eq_true',decide_eq_false_iff_not,Int.natCast_inj];exact⟨λz=>⟨by lia,h,z⟩,λz=>z.2.2⟩
theorem Zf:FT P w AJ T 1 t.WL t.WM ["start","width","word"] Ze:=by
 refine T.SQ.Cr jw ?_;rintro _ A _ s H _ Q E hr ⟨s,n,w,rfl,hw,hn,q⟩;refine⟨_,(AH (AO (iu (KU GR Aj (pv 2) (AY _)) (iu (KU Jj (pv 1) (pv 2) (AY _)) (ir (KU FV (An Ug (pv 0) (pv 2)) (An Ug (An D5 (An Ca (pv 0) (pv 1)) Aj) (pv 2)) (AY _))))))),?_⟩;walk_at "rd";refine Az (λh1=>Az (λh2=> ?_) λh2=> ?_) λh1=> ?_
 ·refine⟨⟨by lia,by lia⟩,⟨by lia,by lia⟩,rfl,?_⟩;rw[j7 (by lia) hn (by lia)];exact q
 ·rw[show crosses w s n=false by rw[Bool.eq_false_iff,Ne,Mt.CC];lia] at q;exact q
 ·rw[show crosses w s n=false by rw[Bool.eq_false_iff,Ne,Mt.CC];lia] at q;exact q
inductive Xd(vs:List V)(H:Hp)(Q:VK)(E:XK):Prop | mk:∀s a:Nat,vs=[.int s,.int a]->1<=a->a<1000->Q (.int (Valayc.upTo a s:Nat)) H->Xd vs H Q E
theorem iM:FT P w AJ T 1 t.T7 t.T8 ["bit","align"] Xd:=by refine T.UH.Cr iH ?_;rintro _ A _ s H _ Q E hr ⟨s,a,rfl,h1,h2,q⟩;refine⟨_,(AH (AO (An Yh (An Ug (An D5 (An Ca (pv 0) (pv 1)) Aj) (pv 1)) (pv 1)))),?_⟩;walk_at "rd";refine⟨⟨by lia,by lia⟩,.inr ⟨by lia,by lia⟩,?_⟩;rw[show (s:Int)+a - 1=((s+a - 1:Nat):Int) by lia,<-Int.natCast_ediv,<-Int.natCast_mul];exact q
abbrev nL(ss:List Nat):List V:=ss.map λj=>V.int (j:Nat)
def oV:Option Nat->V
 |some b=> .int (b:Nat)
 |none=> .int (-1)
theorem oj{ss:List Nat}{b:Nat}(h:ss[i]?=some b):iR (nL ss) (i:Int)=some (.int (b:Nat)):=Fp (by rw[getElem?_map,h];rfl)
theorem yL{st:List (Option Nat)}{b:Option Nat}(h:st[i]?=some b):iR (st.map oV) (i:Int)=some (oV b):=Fp (by rw[getElem?_map,h];rfl)
def wz(ls:List Leaf)(ss:List Nat)(i j:Nat):Bool:=match ls[i]?,ss[i]?,ls[j]?,ss[j]? with
 |some x,some s,some y,some u=>decide (s<u+wd y/\u<s+wd x)
 |_,_,_,_=>false
inductive Zg(t:Bz)(vs:List V)(H:Hp)(Q:VK)(E:XK):Prop | mk:∀(r sl:Addr) (ls:List Leaf) (ss:List Nat) (i j:Nat),vs=[.ref r,.int i,.int j,.ref sl]->V3 t H r ls->H sl=some (.lst (nL ss))->ss.length=ls.length->i<ls.length->j<ls.length->Q (.bl (wz ls ss i j)) H->Zg t vs H Q E
theorem j8:FT P w AJ T 1 t.WN t.WO ["record","number","other","starts"] (Zg t):=by
 refine T.WV.Cr ZU ?_;rintro _ A _ s H _ Q E hr ⟨r,sl,ls,ss,i,j,rfl,⟨dx,lf,ll,lr,x,as,rs,R⟩,h1,h2,h3,h4,q⟩;have nd:=ZU.nd;refine⟨_,(AD (ps_sl 4 nd (BY Av (pv 3) (pv 1) (λ_ _=>rfl)))
   (AD (ps_sl 5 nd (BY Av (pv 3) (pv 2) (λ_ _=>rfl)))
   (AH (AO (iu (KU GR (pv 4) (An Ca (pv 5) (AQ (BY Av (AQ (pv 0) rfl) (pv 2) (λ_ _=>rfl)) rfl)) (AY _)) (ir (KU GR (pv 5) (An Ca (pv 4) (AQ (BY Av (AQ (pv 0) rfl) (pv 1) (λ_ _=>rfl)) rfl)) (AY _)))))))),?_⟩
 walk_at "rd";obtain⟨x,hx⟩:∃x,ls[i]?=some x:=⟨_,getElem?_eq_getElem h3⟩;obtain⟨y,hy⟩:∃y,ls[j]?=some y:=⟨_,getElem?_eq_getElem h4⟩;obtain⟨s,hs⟩:∃s,ss[i]?=some s:=⟨_,getElem?_eq_getElem (by lia)⟩;obtain⟨u,hu⟩:∃u,ss[j]?=some u:=⟨_,getElem?_eq_getElem (by lia)⟩;obtain⟨a,da,ga,ia,_,ha⟩:=R.leaf hx;obtain⟨b,db,gb,ib,_,hb⟩:=R.leaf hy;unfold wz at q;rw[hx,hy,hs,hu] at q;dsimp only at q;refine⟨_,⟨_,A4.of h1,oj hs⟩,_,⟨_,A4.of h1,oj hu⟩,_,⟨_,_,_,R.at_,T.Ao,T.Ap,rfl⟩,ll,rfl,_,⟨_,A4.of R.lv,ib⟩,b,rfl,_,⟨_,_,_,hb,T.D6,T.Bu,rfl⟩,_,rfl,_,rfl,_,rfl,Az (λz=> ?_) λz=> ?_⟩
 ·refine⟨_,⟨_,_,_,R.at_,T.Ao,T.Ap,rfl⟩,ll,rfl,_,⟨_,A4.of R.lv,ia⟩,a,rfl,_,⟨_,_,_,ha,T.D6,T.Bu,rfl⟩,_,rfl,_,rfl,_,rfl,?_⟩;rw[show decide (s<u+wd y/\u<s+wd x)=decide ((u:Int)<(s:Int)+(wd x:Nat)) by rw[decide_eq_decide];lia] at q;exact q
 ·rw[show decide (s<u+wd y/\u<s+wd x)=false by rw[decide_eq_false_iff_not];lia] at q;exact q
inductive UK(t:Bz)(vs:List V)(H:Hp)(Q:VK)(E:XK):Prop | mk:∀(r sl:Addr) (ls:List Leaf) (ss:List Nat),vs=[.ref r,.ref sl]->V3 t H r ls->H sl=some (.lst (nL ss))->ss.length=ls.length->1<=ls.length->ls.length<=24->(∀H' (m:Nat),AR H H'->m∈Mt.ends ls ss->(∀y∈Mt.ends ls ss,y<=m)->Q (.int (m:Nat)) H')->UK t vs H Q E
theorem Hw:FT P w AJ T 1 t.WJ t.WK ["record","starts"] (UK t):=by
 refine T.GS.Cr ZT ?_;rintro _ A _ s H _ Q E hr ⟨r,sl,ls,ss,rfl,⟨dx,lf,ll,lr,x,as,rs,R⟩,h1,h2,h3,h4,q⟩;have nd:=ZT.nd;refine⟨_,(AH (AO (AZ (o5 rfl) rfl T.kR boot_max (AB (Jk (own:=[("start",2),("leaf",3)]) rfl nd (i8 rfl T.oR (AB (pv 1) (AB (AQ (pv 0) rfl) AE))) (B4 rfl) (λ_ _ _ _ _=>(YF (K:=K) (n:=2) rfl (CU (A8 (i:=2) nd rfl (Or.inl rfl) (.inr rfl)) (CU (A8 (i:=3) nd rfl (Or.inl rfl) (.inr rfl)) Lq)) rfl)) (λ_ _ _ _ _=>Ct) (λ_ _ _ _ _=>(An Ca (pv 2) (OV (K:=K) (pv 3) rfl rfl)))) AE)))),?_⟩;walk_at "rd";refine⟨_,⟨_,_,_,R.at_,T.Ao,T.Ap,rfl⟩,sl,ll,_,_,rfl,A4.of h1,A4.of R.lv,λD hD=> ?_⟩;refine eD (nL (Mt.ends ls ss)) (by decide) (by rw[length_map,length_map,h2,R.la.1]) (by unfold Mt.ends;simp[h2]) (A4.of h1) (A4.of R.lv) (by rw[length_map,h2,sizeLine_eq];lia) hD (λi x z y H1 Q1 hx hz hy s1 q1=> ?_) λH2 s2 e2=> ?_
 ·obtain⟨b,hb,rfl⟩:=A5 hx;obtain⟨a,ha,rfl⟩:=CV hz;obtain⟨e,he,rfl⟩:=A5 hy;unfold Mt.ends at he;obtain⟨⟨b',f⟩,hbf,rfl⟩:=A5 he;rw[getElem?_zip_eq_some] at hbf;obtain⟨hb2,hf⟩:=hbf;rw[hb] at hb2;cases hb2;obtain⟨a',da,ga,_,ia,hl⟩:=(R.mono s1).leaf hf;rw[ha] at ia;cases ia;exact⟨_,⟨_,_,_,hl,T.D6,T.Bu,rfl⟩,by have:=q1 H1 (AR.refl H1);rw[Int.natCast_add] at this;exact this⟩
 ·refine⟨D,rfl,(Mt.ends ls ss).map λ(c:Nat)=>(c:Int),A4.of (by rw[e2];simp only[map_map];rfl),by unfold Mt.ends;simp;lia,λm hm hle=> ?_⟩;obtain⟨m',hm',rfl⟩:=mem_map.mp hm;exact q H2 m' s2 hm' λy hy=>Int.ofNat_le.mp (hle _ (mem_map.mpr ⟨y,hy,rfl⟩))
inductive Rp(t:Bz)(vs:List V)(H:Hp)(Q:VK)(E:XK):Prop | mk:∀(r sl:Addr) (ls:List Leaf) (ss:List Nat) (w:Nat),vs=[.ref r,.ref sl,.int w]->V3 t H r ls->H sl=some (.lst (nL ss))->ss.length=ls.length->ls.length<=24->w<1000->(∀H',AR H H'->Q (.bl (((ss.zip ls).map λz=>crosses w z.1 (wd z.2)).any id)) H')->Rp t vs H Q E
theorem Z7:FT P w AJ T 2 t.Mg t.Mh ["record","starts","word"] (Rp t):=by
 refine T.NK.Cr RW ?_;rintro _ A _ s H _ Q E hr ⟨r,sl,ls,ss,w,rfl,⟨dx,lf,ll,lr,x,as,rs,R⟩,h1,h2,h3,h4,q⟩;have nd:=RW.nd;refine⟨_,(AH (AO (AZ (i7 rfl) rfl T.oQ boot_any (AB (Jk (own:=[("start",3),("leaf",4)]) rfl nd (i8 rfl T.oR (AB (pv 1) (AB (AQ (pv 0) rfl) AE))) (B4 rfl) (λ_ _ _ _ _=>(YF (K:=K) (n:=2) rfl (CU (A8 (i:=3) nd rfl (Or.inl rfl) (.inr rfl)) (CU (A8 (i:=4) nd rfl (Or.inl rfl) (.inr rfl)) Lq)) rfl)) (λ_ _ _ _ _=>Ct) (λ_ _ _ _ _=>(AV (Zf T) hr.lt rfl T.cb T.SQ.kp (cg T) .nil AK (AB (pv 3) (AB (OV (K:=K) (pv 4) rfl rfl) (AB (pv 2) AE)))))) AE)))),?_⟩;walk_at "rd";refine⟨_,⟨_,_,_,R.at_,T.Ao,T.Ap,rfl⟩,sl,ll,_,_,rfl,A4.of h1,A4.of R.lv,λD hD=> ?_⟩;refine eD (((ss.zip ls).map λz=>crosses w z.1 (wd z.2)).map V.bl) (by decide) (by rw[length_map,length_map,h2,R.la.1]) (by simp[h2]) (A4.of h1) (A4.of R.lv) (by rw[length_map,h2,sizeLine_eq];lia) hD (λi x z y H1 Q1 hx hz hy s1 q1=> ?_) λH2 s2 e2=> ?_
 ·obtain⟨b,hb,rfl⟩:=A5 hx;obtain⟨a,ha,rfl⟩:=CV hz;obtain⟨e,he,rfl⟩:=A5 hy;obtain⟨⟨b',f⟩,hbf,rfl⟩:=A5 he;rw[getElem?_zip_eq_some] at hbf;obtain⟨hb2,hf⟩:=hbf;rw[hb] at hb2;cases hb2;obtain⟨a',da,ga,_,ia,hl⟩:=(R.mono s1).leaf hf;rw[ha] at ia;cases ia;exact⟨_,⟨_,_,_,hl,T.D6,T.Bu,rfl⟩,_,wd f,w,rfl,h4,Mt.QJ f,q1 H1 (AR.refl H1)⟩
 ·exact⟨D,rfl,_,A4.of e2,q H2 s2⟩
inductive Vj(t:Bz)(vs:List V)(H:Hp)(Q:VK)(E:XK):Prop | mk:∀(r sl:Addr) (ls:List Leaf) (ss:List Nat) (i n:Nat),vs=[.ref r,.int i,.int n,.ref sl]->V3 t H r ls->H sl=some (.lst (nL ss))->ss.length=ls.length->Mt.QB ls->i<ls.length->(∀H',AR H H'->Q (.bl (Mt.Kt ls n ss i)) H')->Vj t vs H Q E
theorem fG:FT P w AJ T 2 t.Qi t.Qj ["record","number","size","starts"] (Vj t):=by
 refine T.Q6.Cr VV ?_;rintro _ A _ s H _ Q E hr ⟨r,sl,ls,ss,i,n,rfl,⟨dx,lf,ll,lr,x,as,rs,R⟩,h1,h2,ok,h3,q⟩;have nd:=VV.nd;refine⟨_,(AD (ps_sl 4 nd (BY Av (AQ (pv 0) rfl) (pv 1) (λ_ _=>rfl)))
   (AD (ps_sl 5 nd (BY Av (pv 3) (pv 1) (λ_ _=>rfl)))
   (AD (Ay (PW.pt (Wv (AU UZ (An Ca (pv 5) (AQ (pv 4) rfl)) (An Yh Aj (pv 2)) (AY _)) (QF (AU FV (An vH (pv 5) (AQ (pv 4) rfl)) Aj (AY _))))) (AH (AO kH)) AX)
   (AH (AO (AZ (i7 rfl) rfl T.oQ boot_any (AB (Jk (own:=[("rival",6)]) rfl nd (Cb (BY Av (AQ (pv 0) rfl) (pv 1) (λ_ _=>rfl))) (B4 rfl) (λ_ _ _ _ _=>(A8 (i:=6) nd rfl (Or.inl rfl) (.inr rfl))) (λ_ _ _ _ _=>Ct) (λ_ _ _ _ _=>(AV (j8 T) hr.lt rfl T.nJ T.WV.kp (nP T) .nil AK (AB (pv 0) (AB (pv 1) (AB (pv 6) (AB (pv 3) AE))))))) AE))))))),?_⟩
 walk_at "rd";obtain⟨x,hx⟩:∃x,ls[i]?=some x:=⟨_,getElem?_eq_getElem h3⟩;obtain⟨s,hs⟩:∃s,ss[i]?=some s:=⟨_,getElem?_eq_getElem (by lia)⟩;obtain⟨a,da,ga,ia,_,ha⟩:=R.leaf hx;obtain⟨b,ib,hb⟩:=R.zX h3;have hal:=(ok.al x (mem_of_getElem? hx)).pos;have ef:Mt.Kt ls n ss i=(decide (8 * n<s+wd x) || (decide (s % x.align≠0) || (Bj ls i).any λj=>wz ls ss i j)):=by unfold Mt.Kt;rw[hx,hs];dsimp only;congr 2;refine Mt.any_congr λj hj=> ?_;unfold wz;rw[hx,hs];have hj:=Mt.WE hj;rw[getElem?_eq_getElem hj,getElem?_eq_getElem (show j<ss.length by lia)]
 refine⟨_,⟨_,_,_,R.at_,T.Ao,T.Ap,rfl⟩,ll,rfl,_,⟨_,A4.of R.lv,ia⟩,_,⟨_,A4.of h1,oj hs⟩,a,rfl,_,⟨_,_,_,ha,T.D6,T.Bu,rfl⟩,_,rfl,_,rfl,.inl ⟨by decide,by decide⟩,Az (λz=> ?_) λz=> ?_⟩
 ·rw[ef,decide_eq_true (show 8 * n<s+wd x by lia),Bool.true_or] at q;exact q H (AR.refl H)
 refine⟨a,rfl,_,⟨_,_,_,ha,T.D6,T.Kb,rfl⟩,_,rfl,_,rfl,by lia,rfl,Az (λz2=> ?_) λz2=> ?_⟩
 ·rw[ef,decide_eq_true (show s % x.align≠0 by lia),Bool.true_or,Bool.or_true] at q;exact q H (AR.refl H)
 rw[ef,decide_eq_false (show ¬8 * n<s+wd x by lia),decide_eq_false (show ¬s % x.align≠0 by lia),Bool.false_or,Bool.false_or] at q;refine⟨_,⟨_,_,_,R.at_,T.Ao,T.Je,rfl⟩,_,⟨_,A4.of R.rv,ib⟩,b,rfl,⟨_,A4.of hb⟩,λD hD=> ?_⟩;have rl:(Bj ls i).length<=24:=by refine Nat.le_trans (length_filter_le _ _) ?_;rw[length_range];exact ok.Hf
 refine OS (((Bj ls i).map λj=>wz ls ss i j).map V.bl) (by simp) (A4.of hb) (by rw[length_map,sizeLine_eq];lia) hD (λk x y H1 Q1 hx hy s1 q1=> ?_) λH2 s2 e2=> ?_
 ·obtain⟨j,hj,rfl⟩:=A5 hx;obtain⟨c,hc,rfl⟩:=A5 hy;obtain⟨j',hj',rfl⟩:=A5 hc;rw[hj] at hj';cases hj';exact⟨r,sl,ls,ss,i,j,rfl,⟨_,_,_,_,_,_,_,R.mono s1⟩,s1 _ _ h1,h2,h3,Mt.WE (mem_of_getElem? hj),q1 H1 (AR.refl H1)⟩
 ·refine⟨D,rfl,_,A4.of e2,?_⟩;rw[any_map];exact q H2 s2
inductive Xe(t:Bz)(vs:List V)(H:Hp)(Q:VK)(E:XK):Prop | mk:∀(r sl:Addr) (ls:List Leaf) (ss:List Nat) (n:Nat),vs=[.ref r,.int n,.ref sl]->V3 t H r ls->H sl=some (.lst (nL ss))->ss.length=ls.length->Mt.QB ls->(∀H',AR H H'->Q (.bl (Valayb.right ls ⟨n,ss⟩)) H')->Xe t vs H Q E
theorem iN:FT P w AJ T 3 t.T5 t.T6 ["record","size","starts"] (Xe t):=by
 refine T.UG.Cr XS ?_;rintro _ A _ s H _ Q E hr ⟨r,sl,ls,ss,n,rfl,R,h1,h2,ok,q⟩;have nd:=XS.nd;refine⟨_,(AH (AO (vD (AZ (i7 rfl) rfl T.oQ boot_any (AB (Jk (own:=[("number",3)]) rfl nd (Nk rfl T.SI (AB (AZ Ak rfl T.B7 PySem.boot_len (AB (pv 2) AE)) AE)) (B4 rfl) (λ_ _ _ _ _=>(A8 (i:=3) nd rfl (Or.inl rfl) (.inr rfl))) (λ_ _ _ _ _=>Ct) (λ_ _ _ _ _=>(AV (fG T) hr.lt rfl T.hW T.Q6.kp (iC T) .nil AK (AB (pv 0) (AB (pv 3) (AB (pv 1) (AB (pv 2) AE))))))) AE))))),?_⟩;walk_at "rd";rw[Mt.nE h2] at q;have Hf:=ok.Hf;refine⟨sl,rfl,_,.inl (A4.of h1),(ss.length:Int),by rw[length_map],by lia,by lia,λD hD=> ?_⟩;refine sv (((List.range ls.length).map λj=>Mt.Kt ls n ss j).map V.bl) (by simp[h2]) (by rw[sizeLine_eq];lia) hD (λi y H1 Q1 hi hy s1 q1=> ?_) λH2 s2 e2=> ?_
 ·obtain⟨c,hc,rfl⟩:=A5 hy;obtain⟨j,hj,rfl⟩:=A5 hc;have hi:i<ls.length:=by lia
  rw[List.getElem?_range hi] at hj;cases hj;rw[Int.zero_add];exact⟨r,sl,ls,ss,i,n,rfl,R.mono s1,s1 _ _ h1,h2,ok,hi,q1⟩
 ·refine⟨D,rfl,_,A4.of e2,?_⟩;rw[any_map];exact q H2 s2
end
section
variable{ls:List Leaf}
theorem D4.lt{w:Nat}(h:D4 w):w<1000:=by unfold Mt.D4 at h;lia
def w8(ls:List Leaf)(st:List (Option Nat))(r:Nat):Option (Nat×Nat):=match st[r]?,ls[r]? with
 |some (some b),some y=>some (b,wd y)
 |_,_=>none
theorem tE{st:List (Option Nat)}:Mt.QC ls st i=(Bj ls i).filterMap (w8 ls st):=rfl
inductive We(t:Bz)(vs:List V)(H:Hp)(Q:VK)(E:XK):Prop | mk:∀(r sl:Addr) (ls:List Leaf) (st:List (Option Nat)) (i s w:Nat) (x:Leaf),vs=[.ref r,.int i,.int s,.ref sl,.int w]->V3 t H r ls->H sl=some (.lst (st.map oV))->st.length=ls.length->ls[i]?=some x->w<1000->Q (.int (Mt.beyond w (wd x) (Mt.QC ls st i) s:Nat)) H->We t vs H Q E
theorem KG:FT P w AJ T 2 t.Fx t.Fy ["record","number","start","starts","word"] (We t):=by
 refine T.Df.Cr Jx ?_;rintro _ A _ s H _ Q E hr ⟨r,sl,ls,st,i,s,w,x,rfl,⟨dx,lf,ll,lr,xn,as,rs,R⟩,h1,h2,hx,hw,q⟩;have nd:=Jx.nd;refine⟨_,(AD (ps_sl 5 nd (AQ (BY Av (AQ (pv 0) rfl) (pv 1) (λ_ _=>rfl)) rfl))
   (AD (Ay (Mb (AV (Zf T) hr.lt rfl T.cb T.SQ.kp (cg T) .nil AK (AB (pv 2) (AB (pv 5) (AB (pv 4) AE))))) (AH (AO (An Yh (An Ca (An Ug (pv 2) (pv 4)) Aj) (pv 4)))) AX)
   (AD (JL PassesOwn.never rfl (Cb (BY Av (AQ (pv 0) rfl) (pv 1) (λ_ _=>rfl))) (A8 (i:=6) nd rfl (Or.inl rfl)) (AD (ps_sl 7 nd (BY Av (pv 3) (pv 6) (λ_ _=>rfl)))
   (AH (Ay (PW.pt (JK (AU FV (pv 7) (A9 T.Nt) (AY _)) (Fo (AU GR (pv 7) (An Ca (pv 2) (pv 5)) (AY _))))) (AD (ps_sl 8 nd (An Ca (pv 7) (AQ (BY Av (AQ (pv 0) rfl) (pv 6) (λ_ _=>rfl)) rfl)))
   (AH (Ay (AU GR (pv 2) (pv 8) (AY _)) (AH (AO (pv 8))) AX))) AX))))
   (AH (AO (pv 2)))))),?_⟩
 walk_at "rd";obtain⟨a,da,ga,ia,_,ha⟩:=R.leaf hx;have hi:=(List.getElem?_eq_some_iff.mp hx).1;obtain⟨b,ib,hb⟩:=R.zX hi;refine⟨_,⟨_,_,_,R.at_,T.Ao,T.Ap,rfl⟩,ll,rfl,_,⟨_,A4.of R.lv,ia⟩,a,rfl,_,⟨_,_,_,ha,T.D6,T.Bu,rfl⟩,s,wd x,w,rfl,hw,Mt.QJ x,_,rfl,Az (λhc=> ?_) λhc=> ?_⟩
 ·have hw0:0<w:=by have:=(Mt.CC.mp hc).1;lia
  unfold Mt.beyond at q;rw[if_pos hc] at q;refine⟨⟨by lia,by lia⟩,.inr ⟨by lia,by lia⟩,?_⟩;rw[<-Int.natCast_ediv,show ((s / w:Nat):Int)+1=((s / w+1:Nat):Int) by lia,<-Int.natCast_mul];exact q
 ·unfold Mt.beyond at q;rw[if_neg hc,tE] at q;refine⟨_,⟨_,_,_,R.at_,T.Ao,T.Je,rfl⟩,_,⟨_,A4.of R.rv,ib⟩,b,rfl,⟨_,A4.of hb⟩,?_⟩;refine Kr (xs:=(Bj ls i).map λj=>V.int (j:Nat)) (λk σ H'=>H'=H/\(∃v6 v7 v8,σ=[some (.ref r),some (.int i),some (.int s),some (.ref sl),some (.int w),some (.int (wd x:Nat)),v6,v7,v8])/\
   (((Bj ls i).drop k).filterMap (w8 ls st)).find? (λp=>decide (p.1<s+wd x/\s<p.1+p.2))=((Bj ls i).filterMap (w8 ls st)).find? λp=>decide (p.1<s+wd x/\s<p.1+p.2))
   ⟨rfl,⟨none,none,none,rfl⟩,rfl⟩ (λk σ H' _ p=>by rw[p.1];exact A4.of hb) (λk v σ H' hv p=> ?_) λσ H' p=> ?_
  ·obtain⟨rfl,⟨v6,v7,v8,rfl⟩,hf⟩:=p;obtain⟨j,hj,rfl⟩:=A5 hv;walk_at "rd";have hjl:=Mt.WE (mem_of_getElem? hj);obtain⟨y,hy⟩:∃y,ls[j]?=some y:=⟨_,getElem?_eq_getElem hjl⟩;obtain⟨o,ho⟩:∃o,st[j]?=some o:=⟨_,getElem?_eq_getElem (by lia)⟩;have hd:(Bj ls i).drop k=j::(Bj ls i).drop (k+1):=by
    obtain⟨h5,h6⟩:=List.getElem?_eq_some_iff.mp hj;rw[List.drop_eq_getElem_cons h5,h6]
   obtain⟨a2,da2,ga2,ia2,_,ha2⟩:=R.leaf hy;have go:w8 ls st j=o.map λb=>(b,wd y):=by unfold w8;rw[ho,hy];cases o<;>rfl
   rw[hd,filterMap_cons,go] at hf;refine⟨_,⟨_,A4.of h1,yL ho⟩,by cases o<;>rfl,Az (λz1=> ?_) λz1=> ?_⟩
   ·cases o with
    |none=>exact absurd rfl z1
    |some b2=>
     simp only[map_some] at hf;rw[find?_cons] at hf;refine⟨_,rfl,Az (λz2=> ?_) λz2=> ?_⟩
     ·refine⟨_,⟨_,_,_,R.at_,T.Ao,T.Ap,rfl⟩,ll,rfl,_,⟨_,A4.of R.lv,ia2⟩,a2,rfl,_,⟨_,_,_,ha2,T.D6,T.Bu,rfl⟩,_,rfl,_,rfl,Az (λz3=> ?_) λz3=> ?_⟩
      ·rw[decide_eq_true (show b2<s+wd x/\s<b2+wd y by lia)] at hf;simp only at hf;rw[<-hf] at q;dsimp only at q;rw[Int.natCast_add] at q;exact q
      ·rw[decide_eq_false (show ¬(b2<s+wd x/\s<b2+wd y) by lia)] at hf;exact⟨⟨_,rfl⟩,hf⟩
     ·rw[decide_eq_false (show ¬(b2<s+wd x/\s<b2+wd y) by lia)] at hf;exact⟨⟨_,rfl⟩,hf⟩
   ·cases o with
    |none=>exact⟨⟨_,rfl⟩,hf⟩
    |some b2=>exact absurd (V.int.inj (Classical.not_not.mp z1)) (by lia)
  ·obtain⟨rfl,⟨v6,v7,v8,rfl⟩,hf⟩:=p;rw[length_map,drop_length] at hf;rw[<-hf] at q;exact q
inductive Vk(t:Bz)(vs:List V)(H:Hp)(Q:VK)(E:XK):Prop | mk:∀(r sl:Addr) (ls:List Leaf) (st:List (Option Nat)) (i w:Nat) (x:Leaf),vs=[.ref r,.int i,.ref sl,.int w]->V3 t H r ls->H sl=some (.lst (st.map oV))->st.length=ls.length->ls[i]?=some x->D4 w->Ki x.align->(∀s:Nat,Mt.Ya w x.align (wd x) (Mt.QC ls st i) s->Q (.int (s:Nat)) H)->Vk t vs H Q E
def numAt(σ:L2.St)(i:Nat):Nat:=match σ[i]? with
 |some (some (.int s))=>s.toNat
 |_=>0
theorem Vl:FT P w AJ T 3 t.Qk t.Ql ["record","number","starts","word"] (Vk t):=by
 refine T.Ly.Cr VW ?_;rintro _ A _ s H _ Q E hr ⟨r,sl,ls,st,i,w,x,rfl,RV,h1,h2,hx,hw,hal,q⟩;obtain⟨dx,lf,ll,lr,xn,as,rs,R⟩:=id RV;have nd:=VW.nd;refine⟨_,(AD (ps_sl 4 nd (AQ (BY Av (AQ (pv 0) rfl) (pv 1) (λ_ _=>rfl)) rfl))
   (AD (ps_sl 5 nd Aj)
   (AD (ps_sl 6 nd (AV (KG T) hr.lt rfl T.LR T.Df.kp (Lb T) .nil AK (AB (pv 0) (AB (pv 1) (AB (pv 5) (AB (pv 2) (AB (pv 3) AE)))))))
   (AD (FX PassesOwn.never (AU FV (pv 6) (pv 5) (AY _)) (AD (ps_sl 5 nd (AV (iM T) hr.lt rfl T.jj T.UH.kp (jt T) .nil AK (AB (pv 6) (AB (pv 4) AE))))
   (AH (ps_sl 6 nd (AV (KG T) hr.lt rfl T.LR T.Df.kp (Lb T) .nil AK (AB (pv 0) (AB (pv 1) (AB (pv 5) (AB (pv 2) (AB (pv 3) AE))))))))))
   (AH (AO (pv 5))))))),?_⟩
 walk_at "rd";obtain⟨a,da,ga,ia,_,ha⟩:=R.leaf hx;refine⟨_,⟨_,_,_,R.at_,T.Ao,T.Ap,rfl⟩,ll,rfl,_,⟨_,A4.of R.lv,ia⟩,a,rfl,_,⟨_,_,_,ha,T.D6,T.Kb,rfl⟩,?_⟩;have hn:=Mt.QJ x;have bey:∀(s:Nat) (R:VK),R (.int (Mt.beyond w (wd x) (Mt.QC ls st i) s:Nat)) H->We t [V.ref r,V.int ↑i,V.int (s:Nat),V.ref sl,V.int ↑w] H R λ_ _ _=>False:=λs R q=>⟨r,sl,ls,st,i,s,w,x,rfl,RV,h1,h2,hx,D4.lt hw,q⟩;refine bey 0 _ ?_;obtain⟨B,hB⟩:=Mt.qR hw hal hn (Mt.QC ls st i);refine KY (λσ H'=>H'=H/\∃s:Nat,σ=[some (.ref r),some (.int i),some (.ref sl),some (.int w),some (.int (x.align:Nat)),some (.int s),some (.int (Mt.beyond w (wd x) (Mt.QC ls st i) s:Nat))]/\s % x.align=0/\∀u,u<s->¬Mt.Fits w x.align (wd x) (Mt.QC ls st i) u)
  (λσ _=>B+1 - numAt σ 5) ⟨rfl,0,rfl,Nat.zero_mod _,λu hu=>by lia⟩ ?_
 rintro σ H' ⟨rfl,s,rfl,hs,hu⟩;walk_at "rd";refine⟨rfl,Az (λz=>NZ ?_) λz=> ?_⟩
 ·have hpos:=hal.pos;have hlt:x.align<1000:=by unfold Mt.Ki at hal;lia
  refine⟨_,_,rfl,hpos,hlt,bey _ _ ⟨⟨rfl,_,rfl,Mt.Y0,λu hu'=>Mt.cJ hpos hn hu hu'⟩,?_⟩⟩;have g1:s<=B:=le_of_not_lt λz2=>hu B z2 hB;have g2:=Mt.m9 (w:=w) (n:=wd x) (s:=s) (ob:=Mt.QC ls st i);have g3:=Mt.lH (s:=Mt.beyond w (wd x) (Mt.QC ls st i) s) hpos;have g4:Mt.beyond w (wd x) (Mt.QC ls st i) s≠s:=λe=>z (by rw[e]);have g5:Valayc.upTo x.align (Mt.beyond w (wd x) (Mt.QC ls st i) s)<=B:=le_of_not_lt λz2=>Mt.cJ hpos hn hu z2 hB;show B+1 - (Int.toNat ((Valayc.upTo x.align (Mt.beyond w (wd x) (Mt.QC ls st i) s):Nat):Int))<B+1 - (Int.toNat (s:Int));rw[Int.toNat_natCast,Int.toNat_natCast];lia
 ·refine q s ⟨Mt.g8 hs ?_,hu⟩;exact Int.natCast_inj.mp (Classical.not_not.mp z)
inductive Po(t:Bz)(vs:List V)(H:Hp)(Q:VK)(E:XK):Prop | mk:∀(r ol:Addr) (ls:List Leaf) (o:List Nat) (w:Nat),vs=[.ref r,.ref ol,.int w]->V3 t H r ls->H ol=some (.lst (nL o))->o.Perm (List.range ls.length)->Mt.QB ls->D4 w->(∀H' p,AR H H'->H' p=some (.lst (nL (startsOf ls.length (Valayc.placed w ls o))))->Q (.ref p) H')->Po t vs H Q E
theorem Fu:FT P w AJ T 4 t.Ky t.Kz ["record","order","word"] (Po t):=by
 refine T.DL.Cr Pe ?_;rintro _ A _ s H _ Q E hr ⟨r,ol,ls,o,w,rfl,RV,h1,hp,ok,hw,q⟩;obtain⟨dx,lf,ll,lr,xn,as,rs,R⟩:=id RV;have nd:=Pe.nd;refine⟨_,(AD (ps_sl 3 nd (An i6 (BU (AB (A9 T.Nt) AE)) (AZ Ak rfl T.B7 PySem.boot_len (AB (AQ (pv 0) rfl) AE))))
   (AD (JL PassesOwn.never rfl (Cb (pv 1)) (A8 (i:=4) nd rfl (Or.inl rfl)) (AH (vG (AV (Vl T) hr.lt rfl T.XH T.Ly.kp (XQ T) .nil AK (AB (pv 0) (AB (pv 4) (AB (pv 3) (AB (pv 2) AE))))) (vF (pv 3) (pv 4) set_list))))
   (AH (AO (pv 3))))),?_⟩
 walk_at "rd";refine⟨by rw[sizeLine_eq];decide,λp0 hp0=> ?_⟩;have s0:=AR.upd (o:=HO.lst [V.int (-1)]) hp0;have R0:=R.mono s0;have Hf:=ok.Hf;have hal:=R.la.1;refine⟨_,⟨_,_,_,R0.at_,T.Ao,T.Ap,rfl⟩,ll,rfl,_,.inl (A4.of R0.lv),_,AG,by lia,by rw[length_map,hal];lia,by rw[length_map,hal,sizeLine_eq];show 1 * _<=_;lia,λp hpn=> ?_⟩;have hpH:H p=none:=s0.free hpn;have e0:(replicate (((List.map V.ref as).length:Int).toNat) [V.int (-1)]).flatten=(replicate ls.length (none:Option Nat)).map oV:=by
  rw[length_map,hal,Int.toNat_natCast];generalize ls.length=n;induction n with
  |zero=>rfl
  |succ n ih=>rw[replicate_succ,replicate_succ,flatten_cons,ih,map_cons];rfl
 rw[e0];have hol:p≠ol:=λz=>by rw[z,h1] at hpH;cases hpH
 have sm:∀{H':Hp} {o:HO},AR H H'->AR H (upd H' p o):=λs c u e=>by rw[AM (λz=>by rw[z,hpH] at e;cases e)];exact s _ _ e
 have hlt:∀k,k∈o->k<ls.length:=λk hk=>mem_range.mp (hp.mem_iff.mp hk);refine⟨ol,rfl,⟨_,A4.of (by rw[AM (Ne.symm hol)];exact s0 _ _ h1)⟩,Kr (xs:=nL o) (λk σ H'=>AR H H'/\∃st v4,H' p=some (.lst (st.map oV))/\Mt.Hr ls (Valayc.placed w ls (o.take k)) st/\σ=[some (.ref r),some (.ref ol),some (.int w),some (.ref p),v4])
  ⟨sm s0,_,none,AG,Mt.Hr.nil ls,rfl⟩ (λk σ H' _ p=>A4.of (p.1 _ _ h1)) (λk v σ H' hv pv=> ?_) λσ H' pv=> ?_⟩
 ·obtain⟨s1,st,v4,hst,co,rfl⟩:=pv;obtain⟨j,hj,rfl⟩:=A5 hv;walk_at "rd";have hjl:=hlt j (mem_of_getElem? hj);obtain⟨x,hx⟩:∃x,ls[j]?=some x:=⟨_,getElem?_eq_getElem hjl⟩;have ond:o.Nodup:=hp.nodup_iff.mpr nodup_range;have hjn:j∉o.take k:=λz=>by
   obtain⟨h5,h6⟩:=List.getElem?_eq_some_iff.mp hj;have e:=List.take_append_drop k o;rw[List.drop_eq_getElem_cons h5,h6] at e;rw[<-e,nodup_append] at ond;exact ond.2.2 j z j mem_cons_self rfl
  have hsj:st[j]?=some none:=by
   cases e:st[j]? with
   |none=>rw[List.getElem?_eq_none_iff,co.len] at e;lia
   |some c=>
    cases c with
    |none=>rfl
    |some b=>obtain⟨pl,hpl,e2⟩:=co.of j b e;have:=Mt.QT (w:=w) (ls:=ls) (o:=o.take k) λi hi=>hlt i (List.mem_of_mem_take hi);exact absurd (by rw[<-this];exact mem_map.mpr ⟨pl,hpl,e2⟩) hjn
  have hlst:=co.least ok hw hx hsj;refine⟨r,p,ls,st,j,w,x,rfl,RV.mono s1,hst,co.len,hx,hw,ok.al x (mem_of_getElem? hx),λs2 hs2=> ?_⟩;have e2:=hs2.uniq hlst λ_=>Iff.rfl;subst e2;refine⟨_,hst,j,?_,sm s1,st.set j (some (Mt.ff w (Valayc.placed w ls (o.take k)) x)),?_,?_,_,rfl⟩
  ·unfold tT;rw[if_pos (by lia),if_pos (by rw[length_map,co.len];lia)];simp
  ·rw[AG,List.map_set];rfl
  ·rw[take_add_one,hj];show Mt.Hr ls (Valayc.placed w ls (o.take k++ [j])) _;rw[Mt.ES hx];exact co.put hx hsj
 ·obtain⟨s1,st,v4,hst,co,rfl⟩:=pv;rw[length_map,take_length] at co;refine q H' p s1 ?_;rw[hst,co.full hp,map_map];rfl
inductive Vm(t:Bz)(vs:List V)(H:Hp)(Q:VK)(E:XK):Prop | mk:∀(r:Addr) (ls:List Leaf),vs=[.ref r]->V3 t H r ls->ls.length<=24->(∀p,H p=none->Q (.ref p) (upd H p (.lst (nL (List.range ls.length)))))->Vm t vs H Q E
theorem PK:FT P w AJ T 1 t.Qm t.Qn ["record"] (Vm t):=by refine T.Io.Cr fB ?_;rintro _ A _ s H _ Q E hr ⟨r,ls,rfl,⟨dx,lf,ll,lr,xn,as,rs,R⟩,hl,q⟩;refine⟨_,(AH (AO (my rfl rfl T.Yn rfl T.SI (AZ Ak rfl T.B7 PySem.boot_len (AB (AQ (pv 0) rfl) AE))))),?_⟩;walk_at "rd";exact⟨_,⟨_,_,_,R.at_,T.Ao,T.Ap,rfl⟩,ll,rfl,_,.inl (A4.of R.lv),ls.length,by rw[length_map,R.la.1],by lia,q⟩
inductive OI(t:Bz)(vs:List V)(H:Hp)(Q:VK)(E:XK):Prop | mk:∀(r ol:Addr) (ls:List Leaf) (o:List Nat) (w:Nat),vs=[.ref r,.ref ol,.int w]->V3 t H r ls->H ol=some (.lst (nL o))->o.Perm (List.range ls.length)->Mt.QB ls->D4 w->(∀H',AR H H'->Q (.int (bitsOf w ls o:Nat)) H')->OI t vs H Q E
theorem DN:FT P w AJ T 5 t.JP t.JQ ["record","order","word"] (OI t):=by refine T.CQ.Cr Wn ?_;rintro _ A _ s H _ Q E hr ⟨r,ol,ls,o,w,rfl,RV,h1,hp,ok,hw,q⟩;refine⟨_,(AH (AO (AV (Hw T) hr.lt rfl T.Ke T.GS.kp (Kf T) .nil AK (AB (pv 0) (AB (AV (Fu T) hr.lt rfl T.Gy T.DL.kp (Gz T) .nil AK (AB (pv 0) (AB (pv 1) (AB (pv 2) AE)))) AE))))),?_⟩;walk_at "rd";refine⟨r,ol,ls,o,w,rfl,RV,h1,hp,ok,hw,λH1 p s1 e1=>⟨r,p,ls,_,rfl,RV.mono s1,e1,Mt.De,ok.pos,ok.Hf,λH2 m s2 hm hle=> ?_⟩⟩;obtain⟨st,co⟩:=Mt.Im (w:=w) o (hp.nodup_iff.mpr nodup_range) λi hi=>mem_range.mp (hp.mem_iff.mp hi);rw[Mt.Y2 co hp ok.pos hm hle];exact q H2 (s1.trans s2)
end
section
variable{ls:List Leaf}
inductive cu(vs:List V)(H:Hp)(Q:VK)(E:XK):Prop | mk:∀(sl:Addr) (st:List (Option Nat)) (i s:Nat),vs=[.ref sl,.int i,.int s]->H sl=some (.lst (st.map oV))->i<st.length->st.length<=24->(∀H' p,AR H H'->H' p=some (.lst ((st.set i (some s)).map oV))->Q (.ref p) H')->cu vs H Q E
theorem cv:FT P w AJ T 1 t.Y3 t.Y4 ["starts","number","start"] cu:=by
 refine T.Uy.Cr nR ?_;rintro _ A _ s H _ Q E hr ⟨sl,st,i,s,rfl,h1,h2,h3,q⟩;refine⟨_,(AH (AO (An Kk (An Kk (QO Uh (pv 0) kg (Lr (pv 1))) (BU (AB (pv 2) AE))) (QO Uh (pv 0) (Lr (An Ca (pv 1) Aj)) kg)))),?_⟩;walk_at "rd";simp only[ke];have e1:UX (st.map oV) none (some (i:Int))=(st.take i).map oV:=by unfold UX;rw[HT.fi,HT.SH,List.drop_zero,length_map,min_eq_left (by lia),Nat.sub_zero,map_take]
 have e2:UX (st.map oV) (some ((i:Int)+1)) none=(st.drop (i+1)).map oV:=by unfold UX;rw[show (i:Int)+1=((i+1:Nat):Int) by lia,HT.fi,HT.SH,length_map,min_eq_left (by lia),map_drop,take_of_length_le (by rw[length_drop,length_map];lia)]
 refine⟨_,A4.of h1,?_⟩;rw[e1];intro p1 n1;refine⟨by rw[sizeLine_eq];decide,λp2 n2=> ?_⟩;have s1:=AR.upd (o:=HO.lst ((st.take i).map oV)) n1;have s2:=AR.upd (o:=HO.lst [V.int (s:Nat)]) n2;have p12:p1≠p2:=λz=>by rw[<-z,AG] at n2;cases n2
 refine⟨_,(by rw[AM p12];exact AG),_,AG,(by rw[length_map,length_take,sizeLine_eq];show _+1<=_;lia),λp3 n3=> ?_⟩;have s3:=AR.upd (o:=HO.lst ((st.take i).map oV++ [V.int (s:Nat)])) n3;refine⟨_,A4.of (s3 _ _ (s2 _ _ (s1 _ _ h1))),?_⟩;rw[e2];intro p4 n4;have s4:=AR.upd (o:=HO.lst ((st.drop (i+1)).map oV)) n4;have p34:p3≠p4:=λz=>by rw[<-z,AG] at n4;cases n4
 refine⟨_,(by rw[AM p34];exact AG),_,AG,?_,λp5 n5=> ?_⟩
 ·rw[length_append,length_map,length_take,length_map,length_drop,sizeLine_eq];show _+1+_<=_;lia
 ·refine q _ _ ((((s1.trans s2).trans s3).trans s4).trans (AR.upd n5)) ?_;rw[AG,List.set_eq_take_append_cons_drop,if_pos h2,map_append,map_cons,append_assoc];rfl
def wait(st:List (Option Nat)):List Nat:=(List.range st.length).filter λi=>decide (st[i]?=some none)
def pX(H:Hp)(ls:List Leaf)(w:Nat)(ps:List Valayc.Placed)(ts:List Addr)(l:List Nat):Prop:=ts.length=l.length/\∀(k:Nat) (a:Addr) (i:Nat) (x:Leaf),ts[k]?=some a->l[k]?=some i->ls[i]?=some x->H a=some (.tup [.int (i:Nat),.int (Mt.ff w ps x:Nat)])
inductive Vn(t:Bz)(vs:List V)(H:Hp)(Q:VK)(E:XK):Prop | mk:∀(r sl:Addr) (ls:List Leaf) (st:List (Option Nat)) (ps:List Valayc.Placed) (w:Nat),vs=[.ref r,.ref sl,.int w]->V3 t H r ls->H sl=some (.lst (st.map oV))->Mt.Hr ls ps st->Mt.QB ls->D4 w->(∀H' p ts,AR H H'->H' p=some (.lst (ts.map V.ref))->pX H' ls w ps ts (wait st)->Q (.ref p) H')->Vn t vs H Q E
theorem Vo:FT P w AJ T 4 t.Qw t.Qx ["record","starts","word"] (Vn t):=by
 refine T.Lz.Cr Vb ?_;rintro _ A _ s H _ Q E hr ⟨r,sl,ls,st,ps,w,rfl,RV,h1,co,ok,hw,q⟩;have nd:=Vb.nd;refine⟨_,(AD (fm (i:=3) (own:=[("number",4),("start",5)]) rfl nd rfl rfl (kq rfl rfl rfl rfl) (kz rfl T.XN (AB (pv 1) AE)) (B4 rfl) (λ_ _ _ _ _=>(YF (K:=K) (n:=2) rfl (CU (A8 (i:=4) nd rfl (Or.inl rfl) (.inr rfl)) (CU (A8 (i:=5) nd rfl (Or.inl rfl) (.inr rfl)) Lq)) rfl)) (λ_ _ _ _ _=>(rm (AU B3 (pv 5) (A9 T.Nt) (AY _)))) (λ_ _ _ _ _=>(pv 4)))
   (AH (AO (Jk (own:=[("number",4)]) rfl nd (Cb (pv 3)) (B4 rfl) (λ_ _ _ _ _=>(A8 (i:=4) nd rfl (Or.inl rfl) (.inr rfl))) (λ_ _ _ _ _=>Ct) (λ_ _ _ _ _=>(dH (AB (pv 4) (AB (AV (Vl T) hr.lt rfl T.XH T.Ly.kp (XQ T) .nil AK (AB (pv 0) (AB (pv 4) (AB (pv 1) (AB (pv 2) AE))))) AE)))))))),?_⟩
 walk_at "rd";have Hf:=ok.Hf;have hlen:=co.len;refine⟨sl,_,rfl,A4.of h1,λD hD=> ?_⟩;refine sO (xs:=st.map oV) (λi H'=>AR H H'/\H' D=some (.lst (nL ((List.range i).filter λi=>decide (st[i]?=some none))))) ⟨AR.upd hD,AG⟩ (λi H' _ p=>A4.of (p.1 _ _ h1)) (λi x H' Tp hx p hT=> ?_) λH1 p=> ?_
 ·obtain⟨o,ho,rfl⟩:=A5 hx;have hr1:(List.range (i+1)).filter (λi=>decide (st[i]?=some none))=(List.range i).filter (λi=>decide (st[i]?=some none))++if o=none then [i] else []:=by
   rw[range_succ,filter_append];congr 1;rw[filter_cons,ho];cases o<;>rfl
  have sT:AR H' (upd H' Tp (HO.tup [V.int (i:Nat),oV o])):=AR.upd hT;refine⟨Tp,_,rfl,YO.of AG,rfl,_,_,rfl,_,_,rfl,rfl,rfl,(by cases o<;>rfl),Az (λz=> ?_) λz=> ?_⟩
  ·have z:o=none:=by
    cases o with
    |none=>rfl
    |some b=>exact absurd (V.int.inj (of_decide_eq_true z)) (by lia)
   subst z;have hll:((List.range i).filter λi=>decide (st[i]?=some none)).length<=24:=by have:=(List.getElem?_eq_some_iff.mp ho).1;refine Nat.le_trans (length_filter_le _ _) ?_;rw[length_range];lia
   refine⟨_,sT _ _ p.2,by rw[length_map,sizeLine_eq];lia,λc u e=> ?_,?_⟩
   ·rw[AM (λz=>by rw[z,hD] at e;cases e)];exact sT _ _ (p.1 _ _ e)
   ·rw[AG,hr1,if_pos rfl];unfold nL;rw[map_append];rfl
  ·have z:o≠none:=λe=>by subst e;exact z rfl
   exact⟨p.1.trans sT,by rw[sT _ _ p.2,hr1,if_neg z,append_nil]⟩
 ·obtain⟨s1,e1⟩:=p;rw[length_map] at e1;have e1:H1 D=some (.lst (nL (wait st))):=e1;have wl:(wait st).length<=24:=by
   refine Nat.le_trans (length_filter_le _ _) ?_;rw[length_range];lia
  refine⟨D,rfl,⟨_,A4.of e1⟩,λD2 hD2=> ?_⟩;refine de (xs:=nL (wait st)) (λk H'=>AR H1 H'/\∃ts,H' D2=some (.lst (ts.map V.ref))/\pX H' ls w ps ts ((wait st).take k)) ⟨AR.upd hD2,[],AG,rfl,λk a i x z=>by cases z⟩ (λk H' _ p=>A4.of (p.1 _ _ e1)) (λk x H' hx p=> ?_) λH' p=> ?_
  ·obtain⟨j,hj,rfl⟩:=A5 hx;obtain⟨s2,ts,hts,hfit⟩:=p;have hjm:=mem_filter.mp (mem_of_getElem? hj);have hsj:st[j]?=some none:=of_decide_eq_true hjm.2;have hjl:j<ls.length:=by rw[<-hlen];exact mem_range.mp hjm.1
   obtain⟨x,hxj⟩:∃x,ls[j]?=some x:=⟨_,getElem?_eq_getElem hjl⟩;have sm:=s1.trans s2;have hk:=(List.getElem?_eq_some_iff.mp hj).1;have tl:ts.length=k:=by rw[hfit.1,length_take];lia
   refine⟨rfl,r,sl,ls,st,j,w,x,rfl,RV.mono sm,sm _ _ h1,co.len,hxj,hw,ok.al x (mem_of_getElem? hxj),λs hs=> ?_⟩;have e2:=hs.uniq (co.least ok hw hxj hsj) λ_=>Iff.rfl;subst e2;refine⟨by rw[sizeLine_eq];show 2<=_;lia,λp np=> ?_⟩;have sp:=AR.upd (o:=HO.tup [V.int (j:Nat),V.int (Mt.ff w ps x:Nat)]) np;have hpD:p≠D2:=λz=>by rw[z,hts] at np;cases np
   have sD:∀o,AR H1 (upd (upd H' p (HO.tup [V.int (j:Nat),V.int (Mt.ff w ps x:Nat)])) D2 o):=λo c u e=>by rw[AM (λz=>by rw[z,hD2] at e;cases e)];exact sp _ _ (s2 _ _ e)
   refine⟨_,sp _ _ hts,by rw[length_map,tl,sizeLine_eq];lia,sD _,ts++ [p],by rw[AG,map_append];rfl,?_,λm a i y h5 h6 h7=> ?_⟩
   ·rw[length_append,tl,length_take];show k+1=_;lia
   ·have up:∀{c:Addr} {v:List V},(upd H' p (HO.tup [V.int (j:Nat),V.int (Mt.ff w ps x:Nat)])) c=some (.tup v)->(upd (upd H' p (HO.tup [V.int (j:Nat),V.int (Mt.ff w ps x:Nat)])) D2 (HO.lst (ts.map V.ref++ [V.ref p]))) c=some (.tup v):=λ{c v} e=>by
     rw[AM (λz=>by rw[z,sp _ _ hts] at e;cases e)];exact e
    rcases lt_or_ge m k with hm | hm
    ·rw[getElem?_append_left (by lia)] at h5;rw[List.getElem?_take_of_lt (by lia)] at h6;exact up (sp _ _ (hfit.2 m a i y h5 (by rw[List.getElem?_take_of_lt hm];exact h6) h7))
    ·have em:m=k:=by
      have:=(List.getElem?_eq_some_iff.mp h5).1;rw[length_append,tl] at this;have:m<k+1:=this
      lia
     subst em;rw[getElem?_append_right (by lia),tl,Nat.sub_self] at h5;cases h5;rw[List.getElem?_take_of_lt (by lia),hj] at h6;cases h6;rw[hxj] at h7;cases h7;exact up AG
  ·obtain⟨s2,ts,hts,hfit⟩:=p;rw[length_map,take_length] at hfit;exact q H' D2 ts (s1.trans s2) hts hfit
inductive Rq(vs:List V)(H:Hp)(Q:VK)(E:XK):Prop | mk:∀n:Nat,vs=[.int n]->n<1000->Q (.int (Mt.fact n:Nat)) H->Rq vs H Q E
theorem Z8:FT P w AJ T 1 t.Mn t.Mo ["leaf_count"] Rq:=by
 refine T.NL.Cr RZ ?_;rintro _ A _ s H _ Q E hr ⟨n,rfl,hn,q⟩;have nd:=RZ.nd;refine⟨_,(AD (ps_sl 1 nd Aj)
   (AD (JL PassesOwn.never rfl (Nk rfl T.SI (AB (pv 0) AE)) (A8 (i:=2) nd rfl (Or.inl rfl)) (AH (Tx (i:=1) nd rfl (Or.inl rfl) (An Ca (pv 2) Aj) ve)))
   (AH (AO (pv 1))))),?_⟩
 walk_at "rd";refine⟨(n:Int),rfl,by lia,by lia,?_⟩;rw[Int.toNat_natCast];refine V9 (n:=n) (λk σ H'=>H'=H/\∃v,σ=[some (.int n),some (.int (Mt.fact k:Nat)),v]) ⟨rfl,none,rfl⟩ (λk σ H' hk p=> ?_) λσ H' p=> ?_
 ·obtain⟨rfl,v,rfl⟩:=p;walk_at "rd";refine⟨.inr ⟨by lia,by lia⟩,?_,_,rfl⟩;rw[Mt.fact,Int.natCast_mul];rw[show ((0:Int)+(k:Int)+1)=((k+1:Nat):Int) by lia,Int.mul_comm]
 ·obtain⟨rfl,v,rfl⟩:=p;exact q
def zG(r w bo:V)(b:Int):List (Str×V):=[("record",r),("word",w),("best_order",bo),("best_span",.int b)]
def ua:Mt.UY->Int
 |none=> -1
 |some x=>(x.1:Nat)
def yM:Mt.UY->List Nat
 |none=> []
 |some x=>x.2
inductive Sj(t:Bz)(H:Hp)(s dx r:Addr)(w:Nat)(b:Mt.UY):Prop | mk:∀bo,H s=some (.ins t.EN dx (zG (.ref r) (.int w) (.ref bo) (ua b)))->H bo=some (.lst (nL (yM b)))->Sj t H s dx r w b
inductive Rr(t:Bz)(vs:List V)(H:Hp)(Q:VK)(E:XK):Prop | mk:∀(s dx r:Addr) (w:Nat),vs=[.ref s,.ref r,.int w]->H s=some (.ins t.EN dx [])->(∀H',Kp s H H'->Sj t H' s dx r w none->Q .Fn H')->Rr t vs H Q E
theorem Z9:FT P w AJ T 1 t.M7 t.M8 ["self","record","word"] (Rr t):=by
 refine T.TQ.Cr Z0 ?_;rintro _ A _ s H _ Q E hr ⟨s,dx,r,w,rfl,h1,q⟩;refine⟨_,(AD (BZ (pv 0) (pv 1) rfl)
   (AD (BZ (pv 0) (pv 2) rfl)
   (AD (BZ (pv 0) (BU AE) rfl)
   (AH (BZ (pv 0) (fU Yi Aj) rfl))))),?_⟩
 walk_at "rd";refine⟨_,⟨_,_,_,h1,T.Ci,T.Jf,(by show 0<1000;decide),rfl⟩,_,⟨_,_,_,AG,T.Ci,T.TY,(by show 1<1000;decide),rfl⟩,zero_le _,λp hp=> ?_⟩;rw[BR] at hp ⊢;have hps:p≠s:=λz=>by rw[z,AG] at hp;cases hp
 have hpH:H p=none:=by rw[AM hps] at hp;exact hp
 refine⟨_,⟨_,_,_,by rw[AM (Ne.symm hps)];exact AG,T.Ci,T.FQ,(by show 2<1000;decide),rfl⟩,_,⟨_,_,_,AG,T.Ci,T.Dg,(by show 3<1000;decide),rfl⟩,?_⟩;rw[BR];refine q _ (λb o n e=> ?_) ⟨p,AG,by rw[AM hps];exact AG⟩;rw[AM n,AM (λz=>by rw[z,hpH] at e;cases e),AM n];exact e
inductive Vp(t:Bz)(vs:List V)(H:Hp)(Q:VK)(E:XK):Prop | mk:∀(s dx r:Addr) (w:Nat) (b:Mt.UY) (m:Nat),vs=[.ref s,.int m]->Sj t H s dx r w b->Q (.bl (match b with | none=>true | some x=>decide (m<x.1))) H->Vp t vs H Q E
theorem Sf:FT P w AJ T 1 t.GD t.GF ["self","span"] (Vp t):=by
 refine T.La.Cr Sd ?_;rintro _ A _ s H _ Q E hr ⟨s,dx,r,w,b,m,rfl,⟨bo,h1,h2⟩,q⟩;refine⟨_,(AH (AO (xr (KU B3 (AQ (pv 0) rfl) (fU Yi Aj) (AY _)) (ir (KU GR (pv 1) (AQ (pv 0) rfl) (AY _)))))),?_⟩;walk_at "rd";refine⟨_,⟨_,_,_,h1,T.Ci,T.Dg,rfl⟩,rfl,Az (λz=> ?_) λz=> ?_⟩
 ·have z:=V.int.inj z;cases b with
  |none=>exact q
  |some x=>have z:((x.1:Nat):Int)= -1:=z;lia
 ·cases b with
  |none=>exact absurd rfl z
  |some x=>refine⟨_,⟨_,_,_,h1,T.Ci,T.Dg,rfl⟩,_,rfl,?_⟩;rw[show decide ((m:Int)<ua (some x))=decide (m<x.1) by rw[decide_eq_decide];exact Int.ofNat_lt];exact q
end
section
variable{ls:List Leaf}
theorem OW(st:List (Option Nat)):(wait st).Nodup:=List.nodup_range.filter _
theorem Y8{st:List (Option Nat)}:i∈wait st↔st[i]?=some none:=by unfold wait;rw[mem_filter,mem_range,decide_eq_true_eq];exact⟨λz=>z.2,λz=>⟨(List.getElem?_eq_some_iff.mp z).1,z⟩⟩
theorem qx{st:List (Option Nat)}{s:Nat}(hi:i<st.length):wait (st.set i (some s))=Mt.wo (wait st) i:=by
 unfold wait Mt.wo;rw[List.filter_filter,length_set];refine List.filter_congr λj hj=> ?_;rw[List.getElem?_set];by_cases z:i=j
 ·subst z;simp[hi]
 ·have z2:(j !=i)=true:=by rw[bne_iff_ne];exact λe=>z e.symm
  rw[if_neg z,z2,Bool.true_and]
theorem Kg(n:Nat):wait (replicate n none)=List.range n:=by unfold wait;rw[length_replicate,List.filter_eq_self];intro a ha;rw[decide_eq_true_eq,getElem?_replicate,if_pos (mem_range.mp ha)]
theorem cw(n:Nat):(replicate n [V.int (-1)]).flatten=(replicate n (none:Option Nat)).map oV:=by
 induction n with
 |zero=>rfl
 |succ n ih=>rw[replicate_succ,replicate_succ,flatten_cons,ih,map_cons];rfl
structure Step(ls:List Leaf)(w:Nat)(o:List Nat)(st:List (Option Nat))(i:Nat)(x:Leaf):Prop where
 lt:i<st.length
 fx:ls[i]?=some x
 co:Mt.Hr ls (Valayc.placed w ls (o++ [i])) (st.set i (some (Mt.ff w (Valayc.placed w ls o) x)))
 pm:((o++ [i])++wait (st.set i (some (Mt.ff w (Valayc.placed w ls o) x)))).Perm (List.range ls.length)
 wt:wait (st.set i (some (Mt.ff w (Valayc.placed w ls o) x)))=Mt.wo (wait st) i
 ln:(Mt.wo (wait st) i).length+1=(wait st).length
 ed:endOf (Valayc.placed w ls (o++ [i]))=Nat.max (endOf (Valayc.placed w ls o)) (Mt.ff w (Valayc.placed w ls o) x+wd x)
theorem step{w:Nat}{o:List Nat}{st:List (Option Nat)}(co:Mt.Hr ls (Valayc.placed w ls o) st)(pm:(o++wait st).Perm (List.range ls.length))(hi:i∈wait st):∃x,Step ls w o st i x:=by
 have h1:=Y8.mp hi;have h2:=(List.getElem?_eq_some_iff.mp h1).1;obtain⟨x,hx⟩:∃x,ls[i]?=some x:=⟨_,getElem?_eq_getElem (by rw[<-co.len];exact h2)⟩;have ew:=qx (s:=Mt.ff w (Valayc.placed w ls o) x) h2;refine⟨x,h2,hx,?_,?_,ew,Mt.dP (OW st) hi,?_⟩
 ·rw[Mt.ES hx];exact co.put hx h1
 ·rw[ew,append_assoc];exact(List.Perm.append_left o (Mt.lJ (OW st) hi).symm).trans pm
 ·rw[Mt.ES hx,Mt.ZI]
inductive Up(t:Bz)(n:Nat)(vs:List V)(H:Hp)(Q:VK)(E:XK):Prop | mk:∀(r sl:Addr) (ls:List Leaf) (st:List (Option Nat)) (o:List Nat) (w m:Nat),vs=[.ref r,.int m,.int w,.ref sl]->V3 t H r ls->H sl=some (.lst (st.map oV))->Mt.Hr ls (Valayc.placed w ls o) st->Mt.QB ls->D4 w->(o++wait st).Perm (List.range ls.length)->(wait st).length<n->endOf (Valayc.placed w ls o)<=m->(∀H',AR H H'->Q (.int (Mt.cnt w ls m o (wait st):Nat)) H')->Up t n vs H Q E
theorem nY(T:Txt K mg t)(IH:FO P w K mg AJ t (5+n) t.Dz t.D0 ["record","span","word","starts"] (Up t n)):
  FO P w K mg AJ t (5+n+1) t.Dz t.D0 ["record","span","word","starts"] (Up t (n+1)):=by
 refine T.Fd.Cr LC ?_;rintro _ A _ s H _ Q E hr ⟨r,sl,ls,st,o,w,m,rfl,RV,h1,co,ok,hw,pm,hn,he,q⟩;have nd:=LC.nd;refine⟨_,(AD (ps_sl 4 nd (AV (Vo T) (hr.mono (by lia)) rfl T.XI T.Lz.kp (XR T) .nil AK (AB (pv 0) (AB (pv 3) (AB (pv 2) AE)))))
   (AD (Ay (AU B3 (AZ Ak rfl T.B7 PySem.boot_len (AB (pv 4) AE)) Aj (AY _)) (AH (AO Aj)) AX)
   (AD (ps_sl 5 nd Aj)
   (AD (JL PassesOwn.never rfl (Cb (pv 4)) (Yd rfl (CU (A8 (i:=6) nd rfl (Or.inl rfl)) (CU (A8 (i:=7) nd rfl (Or.inl rfl)) Lq))) (AH (Ay (AU Jj (An Ca (pv 7) (AQ (BY Av (AQ (pv 0) rfl) (pv 6) (λ_ _=>rfl)) rfl)) (pv 1) (AY _)) (AH (Tx (i:=5) nd rfl (Or.inl rfl) (AV IH (hr.mono (by lia)) rfl T.S9 T.Fd.kp (Ta T) .nil AK (AB (pv 0) (AB (pv 1) (AB (pv 2) (AB (AV (cv T) (hr.mono (by lia)) rfl T.gL T.Uy.kp (gO T) .nil AK (AB (pv 3) (AB (pv 6) (AB (pv 7) AE)))) AE))))) Ye)) AX)))
   (AH (AO (pv 5))))))),?_⟩
 walk_at "rd";refine⟨r,sl,ls,st,_,w,rfl,RV,h1,co,ok,hw,λH1 p ts s1 e1 hf=>⟨p,rfl,_,.inl (A4.of e1),rfl,Az (λz=> ?_) λz=> ?_⟩⟩
 ·have z:(wait st).length=0:=by rw[length_map,hf.1] at z;lia
  have z:=eq_nil_of_length_eq_zero z;rw[z,Mt.cnt_nil he] at q;exact q H1 s1
 ·have z:wait st≠ []:=λe=>z (by rw[length_map,hf.1,e];rfl);rw[Mt.yC (OW st) z] at q;have RV1:=RV.mono s1;refine⟨p,rfl,⟨_,A4.of e1⟩,Kr (xs:=ts.map V.ref) (λk σ H'=>AR H1 H'/\∃v6 v7,σ=[some (.ref r),some (.int m),some (.int w),some (.ref sl),some (.ref p),some (.int ((((wait st).take k).map λi=>Mt.cnt w ls m (o++ [i]) (Mt.wo (wait st) i)).sum:Nat)),v6,v7])
   ⟨AR.refl _,none,none,rfl⟩ (λk σ H' _ p=>A4.of (p.1 _ _ e1)) (λk v σ H' hv pv=> ?_) λσ H' pv=> ?_⟩
  ·obtain⟨s2,v6,v7,rfl⟩:=pv;obtain⟨a,ha,rfl⟩:=CV hv;have hk:k<(wait st).length:=by rw[<-hf.1];exact(List.getElem?_eq_some_iff.mp ha).1
   obtain⟨j,hj⟩:∃j,(wait st)[k]?=some j:=⟨_,getElem?_eq_getElem hk⟩;obtain⟨x,S⟩:=step co pm (mem_of_getElem? hj);have ht:=s2 _ _ (hf.2 k a j x ha hj S.fx);obtain⟨dx,lf,ll,lr,xn,as,rs,R⟩:=RV1.mono s2;obtain⟨a2,da2,ga2,ia2,_,ha2⟩:=R.leaf S.fx;have es:(((wait st).take (k+1)).map λi=>Mt.cnt w ls m (o++ [i]) (Mt.wo (wait st) i)).sum=(((wait st).take k).map λi=>Mt.cnt w ls m (o++ [i]) (Mt.wo (wait st) i)).sum+Mt.cnt w ls m (o++ [j]) (Mt.wo (wait st) j):=by rw[take_add_one,hj,map_append,sum_append];simp
   refine⟨a,_,rfl,YO.of ht,rfl,_,_,rfl,_,_,rfl,rfl,?_⟩;walk_at "rd";refine⟨_,⟨_,_,_,R.at_,T.Ao,T.Ap,rfl⟩,ll,rfl,_,⟨_,A4.of R.lv,ia2⟩,a2,rfl,_,⟨_,_,_,ha2,T.D6,T.Bu,rfl⟩,_,rfl,Az (λz2=> ?_) λz2=> ?_⟩
   ·have hl24:st.length<=24:=by rw[co.len];exact ok.Hf
    refine⟨sl,st,j,_,rfl,s2 _ _ (s1 _ _ h1),S.lt,hl24,λH2 p2 s3 e2=>⟨r,p2,ls,_,o++ [j],w,m,rfl,(RV1.mono s2).mono s3,e2,S.co,ok,hw,S.pm,?_,?_,λH3 s4=> ?_⟩⟩
    ·rw[S.wt];have:=S.ln;lia
    ·rw[S.ed];exact max_le.mpr ⟨he,by lia⟩
    ·rw[S.wt];exact⟨_,rfl,(s2.trans s3).trans s4,by rw[es];lia,_,rfl⟩
   ·refine⟨s2,?_,_,rfl⟩;rw[es,Mt.cnt_none (Mt.fX (OW st) j) (λi hi=> ?_) (λz3=> ?_),add_zero]
    ·rw[<-co.len];exact(List.getElem?_eq_some_iff.mp (Y8.mp (Mt.pJ.mp hi).1)).1
    ·rw[S.ed] at z3;have:=(max_le.mp z3).2
     lia
  ·obtain⟨s2,v6,v7,rfl⟩:=pv;rw[length_map,hf.1,take_length];exact q H' (s1.trans s2)
theorem cx(T:Txt K mg t):∀n,FO P w K mg AJ t (5+n) t.Dz t.D0 ["record","span","word","starts"] (Up t n)
 | 0=>T.Fd.aK LC λvs H Q E h=>by obtain⟨r,sl,ls,st,o,w,m,_,_,_,_,_,_,_,h,_⟩:=h;lia
 |n+1=>nY T (cx T n)
theorem aA:FT P w AJ T 30 t.Dz t.D0 ["record","span","word","starts"] (Up t 25):=cx T 25
inductive OJ(t:Bz)(vs:List V)(H:Hp)(Q:VK)(E:XK):Prop | mk:∀(r:Addr) (ls:List Leaf) (w m:Nat),vs=[.ref r,.int m,.int w]->V3 t H r ls->Mt.QB ls->D4 w->(∀H',AR H H'->Q (.int (Mt.cnt w ls m [] (List.range ls.length):Nat)) H')->OJ t vs H Q E
theorem Ws:FT P w AJ T 31 t.JR t.JS ["record","span","word"] (OJ t):=by
 refine T.Jb.Cr Wo ?_;rintro _ A _ s H _ Q E hr ⟨r,ls,w,m,rfl,RV,ok,hw,q⟩;refine⟨_,(AH (AO (AV (aA T) hr.lt rfl T.S9 T.Fd.kp (Ta T) .nil AK (AB (pv 0) (AB (pv 1) (AB (pv 2) (AB (An i6 (BU (AB (A9 T.Nt) AE)) (AZ Ak rfl T.B7 PySem.boot_len (AB (AQ (pv 0) rfl) AE))) AE))))))),?_⟩;walk_at "rd";obtain⟨dx,lf,ll,lr,xn,as,rs,R⟩:=id RV;refine⟨by rw[sizeLine_eq];decide,λp0 hp0=> ?_⟩;have s0:=AR.upd (o:=HO.lst [V.int (-1)]) hp0;have R0:=R.mono s0;have Hf:=ok.Hf;have hal:=R.la.1;refine⟨_,⟨_,_,_,R0.at_,T.Ao,T.Ap,rfl⟩,ll,rfl,_,.inl (A4.of R0.lv),_,AG,by lia,by rw[length_map,hal];lia,by rw[length_map,hal,sizeLine_eq];show 1 * _<=_;lia,λp hpn=> ?_⟩;have s1:=s0.trans (AR.upd (o:=HO.lst ((replicate ls.length (none:Option Nat)).map oV)) hpn);rw[length_map,hal,Int.toNat_natCast,cw];refine⟨r,p,ls,_,[],w,m,rfl,RV.mono s1,AG,Mt.Hr.nil ls,ok,hw,?_,?_,zero_le _,λH2 s2=> ?_⟩
 ·rw[Kg];exact List.Perm.refl _
 ·rw[Kg,length_range];lia
 ·rw[Kg];exact q H2 (s1.trans s2)
end
section
variable{ls:List Leaf}{s:Addr}
def u0:List Str:=["record","word","best_order","best_span"]
theorem Kp.lst{xs:List V}{C a:Addr}{fs:List (Str×V)}(k:Kp s H H')(hs:H s=some (.ins C dx fs))(e:H a=some (.lst xs)):H' a=some (.lst xs):=k _ _ (λz=>by rw[z,hs] at e;cases e) e
theorem Kp.tup{xs:List V}{C a:Addr}{fs:List (Str×V)}(k:Kp s H H')(hs:H s=some (.ins C dx fs))(e:H a=some (.tup xs)):H' a=some (.tup xs):=k _ _ (λz=>by rw[z,hs] at e;cases e) e
theorem Kp.ins{C a D dy:Addr}{fs gs:List (Str×V)}{n:List Str}(k:Kp s H H')(hs:H s=some (.ins C dx fs))(hf:fs.map (·.1)=u0)(e:H a=some (.ins D dy gs))(hg:gs.map (·.1)=n)(hn:n≠u0):H' a=some (.ins D dy gs):=
 k _ _ (Yp e hs hg hf hn) e
theorem V3.ks{fs:List (Str×V)}(h:V3 t H r ls)(k:Kp s H H')(hs:H s=some (.ins C dx fs))(hf:fs.map (·.1)=u0):V3 t H' r ls:=by obtain⟨d,lf,ll,lr,x,as,rs,h⟩:=h;refine⟨d,lf,ll,lr,x,as,rs,k.ins hs hf h.at_ (n:=dE) rfl (by decide+kernel),k.lst hs h.lv,k.lst hs h.rv,⟨h.la.1,λi a f ha hf'=> ?_⟩,h.ra.1,λi a ha=>k.lst hs (h.ra.2 i a ha)⟩;obtain⟨dx,g,gs,h1,h2,h3,h4⟩:=h.la.2 i a f ha hf';exact⟨dx,g,gs,k.ins hs hf h1 (n:=Ub) rfl (by decide+kernel),k.lst hs h2,h3,λi b x hb hx=>k.tup hs (h4 i b x hb hx)⟩
theorem Sj.same{w:Nat}{b:Mt.UY}(h:Sj t H s dx r w b)(k:AR H H'):Sj t H' s dx r w b:=let ⟨bo,h1,h2⟩:=h;⟨bo,k _ _ h1,k _ _ h2⟩
abbrev vl(w:Nat)(ls:List Leaf):List Nat->Nat:=bitsOf w ls
def aI(b:Mt.UY)(m:Nat):Prop:=match b with
 |none=>True
 |some x=>m<x.1
inductive Ir(t:Bz)(n:Nat)(vs:List V)(H:Hp)(Q:VK)(E:XK):Prop | mk:∀(s dx r ol sl:Addr) (ls:List Leaf) (st:List (Option Nat)) (o:List Nat) (w B:Nat) (b:Mt.UY),vs=[.ref s,.ref ol,.ref sl,.int (Nat.max B (endOf (Valayc.placed w ls o)):Nat)]->Sj t H s dx r w b->V3 t H r ls->H ol=some (.lst (nL o))->H sl=some (.lst (st.map oV))->Mt.Hr ls (Valayc.placed w ls o) st->Mt.QB ls->D4 w->(o++wait st).Perm (List.range ls.length)->(wait st).length<n->(∀c:List Nat,c.Perm (List.range ls.length)->B<=bitsOf w ls c)->aI b (Nat.max B (endOf (Valayc.placed w ls o)))->(∀H',Kp s H H'->Sj t H' s dx r w (Mt.scan (vl w ls) b (Mt.ED o (wait st)))->Q .Fn H')->Ir t n vs H Q E
theorem bN(T:Txt K mg t)(IH:FO P w K mg AJ t (5+n) t.CN t.CO ["self","order","starts","span"] (Ir t n)):
  FO P w K mg AJ t (5+n+1) t.CN t.CO ["self","order","starts","span"] (Ir t (n+1)):=by
 refine T.HS.Cr GO ?_;rintro He A Ai s' H vs Q E hr ⟨s,dx,r,ol,sl,ls,st,o,w,B,b,rfl,SA,RV,h1,h2,co,ok,hw,pm,hn,hB,hb,q⟩;have nd:=GO.nd;refine⟨_,(AD (Ay (AU B3 (AZ Ak rfl T.B7 PySem.boot_len (AB (pv 1) AE)) (AZ Ak rfl T.B7 PySem.boot_len (AB (pv 2) AE)) (AY _)) (AD (BZ (pv 0) (pv 1) rfl)
   (AH (BZ (pv 0) (pv 3) rfl))) AX)
   (AH (JL PassesOwn.never rfl (Cb (AV (Vo T) (hr.mono (by lia)) rfl T.XI T.Lz.kp (XR T) .nil AK (AB (AQ (pv 0) rfl) (AB (pv 2) (AB (AQ (pv 0) rfl) AE))))) (Yd rfl (CU (A8 (i:=4) nd rfl (Or.inl rfl)) (CU (A8 (i:=5) nd rfl (Or.inl rfl)) Lq))) (AD (ps_sl 6 nd (AZ (bc rfl) rfl T.kR boot_max (AB (pv 3) (AB (An Ca (pv 5) (AQ (BY Av (AQ (AQ (pv 0) rfl) rfl) (pv 4) (λ_ _=>rfl)) rfl)) AE))))
   (AH (Ay (Mb (Ac (pv 0) T.Ci T.UM (Sf T) (hr.mono (by lia)) (UP T) .nil AK (AB (pv 6) AE))) (AH (Au (Ac (pv 0) T.Ci T.MH IH (hr.mono (by lia)) (MT T) .nil AK (AB (An Kk (pv 1) (BU (AB (pv 4) AE))) (AB (AV (cv T) (hr.mono (by lia)) rfl T.gL T.Uy.kp (gO T) .nil AK (AB (pv 2) (AB (pv 4) (AB (pv 5) AE)))) (AB (pv 6) AE)))))) AX)))))),?_⟩
 have hlen:o.length+(wait st).length=ls.length:=by have:=pm.length_eq;rwa [length_append,length_range] at this
 have e24:=ok.Hf;refine x9 (λσ H1=>σ=[some (.ref s),some (.ref ol),some (.ref sl),some (.int (Nat.max B (endOf (Valayc.placed w ls o)):Nat)),none,none,none]/\Kp s H H1/\∃b0,Sj t H1 s dx r w b0/\(wait st).foldl (λb i=>Mt.scan (vl w ls) b (Mt.ED (o++ [i]) (Mt.wo (wait st) i))) b0=Mt.scan (vl w ls) b (Mt.ED o (wait st))) (λnx hnx=> ?_) ?_
 ·obtain⟨bo,SA1,SA2⟩:=id SA;walk_at "rd";refine⟨_,.inl (A4.of h1),_,.inl (A4.of h2),rfl,Az (λz=> ?_) λz=> ?_⟩
  ·have z0:wait st=[]:=eq_nil_of_length_eq_zero (by rw[length_map,length_map,co.len] at z;lia);rw[z0,append_nil] at pm;have em:Nat.max B (endOf (Valayc.placed w ls o))=bitsOf w ls o:=max_eq_right (hB o pm);have ols:ol≠s:=λe=>by rw[e,SA1] at h1;cases h1
   refine⟨_,⟨_,_,_,SA1,T.Ci,T.FQ,(by show 4<1000;decide),rfl⟩,_,⟨_,_,_,AG,T.Ci,T.Dg,(by show 4<1000;decide),rfl⟩,hnx _ _ ⟨rfl,?_,some (bitsOf w ls o,o),⟨ol,?_,?_⟩,?_⟩⟩
   ·rw[BR];exact Kp.upd
   ·rw[AG,em];rfl
   ·rw[BR,AM ols];exact h1
   ·rw[z0,Mt.cN];show _=Mt.better (vl w ls) b o;rw[em] at hb;unfold Mt.better;cases b with
    |none=>rfl
    |some x=>show _=if bitsOf w ls o<x.1 then _ else _;rw[if_pos (show bitsOf w ls o<x.1 from hb)];rfl
  ·refine hnx _ _ ⟨rfl,Kp.refl s H,b,SA,?_⟩;have z:wait st≠ []:=λe=>z (by rw[length_map,length_map,co.len,<-hlen,e];rfl);rw[Mt.lL (OW st) z,Mt.cO]
 ·rintro σ H1 ⟨rfl,k1,b0,SA1,hb0⟩;obtain⟨bo,at1,_⟩:=id SA1;obtain⟨bo',at0,_⟩:=id SA;have RV1:=RV.ks k1 at0 rfl;have g1:=k1.lst at0 h1;have g2:=k1.lst at0 h2;refine⟨_,⟨_,_,_,at1,T.Ci,T.Jf,rfl⟩,_,⟨_,_,_,at1,T.Ci,T.TY,rfl⟩,r,sl,ls,st,_,w,rfl,RV1,g2,co,ok,hw,λH2 p ts s2 e2 hf=> ?_⟩;have SA2:=SA1.same s2;obtain⟨bo2,at2,_⟩:=id SA2;have RV2:=RV1.mono s2;have g1:=s2 _ _ g1;have g2:=s2 _ _ g2;refine⟨p,rfl,⟨_,A4.of e2⟩,Kr (xs:=ts.map V.ref) (λk σ H'=>Kp s H2 H'/\Sj t H' s dx r w (((wait st).take k).foldl (λb i=>Mt.scan (vl w ls) b (Mt.ED (o++ [i]) (Mt.wo (wait st) i))) b0)/\∃v4 v5 v6,σ=[some (.ref s),some (.ref ol),some (.ref sl),some (.int (Nat.max B (endOf (Valayc.placed w ls o)):Nat)),v4,v5,v6])
   ⟨Kp.refl _ _,SA2,none,none,none,rfl⟩ (λk σ H' _ p=>A4.of (p.1.lst at2 e2)) (λk v σ H' hv pv=> ?_) λσ H' pv=> ?_⟩
  ·obtain⟨k3,SA3,v4,v5,v6,rfl⟩:=pv;obtain⟨a,ha,rfl⟩:=CV hv;have hk:k<(wait st).length:=by rw[<-hf.1];exact(List.getElem?_eq_some_iff.mp ha).1
   obtain⟨j,hj⟩:∃j,(wait st)[k]?=some j:=⟨_,getElem?_eq_getElem hk⟩;obtain⟨x,S⟩:=step co pm (mem_of_getElem? hj);have ht:=k3.tup at2 (hf.2 k a j x ha hj S.fx);have RV3:=RV2.ks k3 at2 rfl;obtain⟨dr,lf,ll,lr,xn,as,rs,R⟩:=id RV3;obtain⟨a2,da2,ga2,ia2,_,ha2⟩:=R.leaf S.fx;obtain⟨bo3,at3,_⟩:=id SA3;have ef:((wait st).take (k+1)).foldl (λb i=>Mt.scan (vl w ls) b (Mt.ED (o++ [i]) (Mt.wo (wait st) i))) b0=Mt.scan (vl w ls) (((wait st).take k).foldl (λb i=>Mt.scan (vl w ls) b (Mt.ED (o++ [i]) (Mt.wo (wait st) i))) b0) (Mt.ED (o++ [j]) (Mt.wo (wait st) j)):=by rw[take_add_one,hj,foldl_append];rfl
   refine⟨a,_,rfl,YO.of ht,rfl,_,_,rfl,_,_,rfl,rfl,?_⟩;walk_at "rd";have em:(if (Mt.ff w (Valayc.placed w ls o) x:Int)+(wd x:Nat)>(Nat.max B (endOf (Valayc.placed w ls o)):Nat) then(Mt.ff w (Valayc.placed w ls o) x:Int)+(wd x:Nat) else(Nat.max B (endOf (Valayc.placed w ls o)):Nat))=(Nat.max B (endOf (Valayc.placed w ls (o++ [j]))):Nat):=by rw[S.ed];have h1:= @max_def B (Nat.max (endOf (Valayc.placed w ls o)) (Mt.ff w (Valayc.placed w ls o) x+wd x));have h2:= @max_def B (endOf (Valayc.placed w ls o));have h3:= @max_def (endOf (Valayc.placed w ls o)) (Mt.ff w (Valayc.placed w ls o) x+wd x);simp only[Nat.max_eq_max] at *;split<;>lia
   refine⟨_,⟨_,_,_,at3,T.Ci,T.Jf,rfl⟩,r,rfl,_,⟨_,_,_,R.at_,T.Ao,T.Ap,rfl⟩,ll,rfl,_,⟨_,A4.of R.lv,ia2⟩,a2,rfl,_,⟨_,_,_,ha2,T.D6,T.Bu,rfl⟩,_,rfl,⟨_,_,at3,rfl⟩,?_⟩;rw[em];have hcm:∀c∈Mt.ED (o++ [j]) (Mt.wo (wait st) j),Nat.max B (endOf (Valayc.placed w ls (o++ [j])))<=vl w ls c:=λc hc=>by
    refine max_le.mpr ⟨hB c ?_,Mt.gG (Mt.fX (OW st) j) (λi hi=> ?_) hc⟩
    ·unfold Mt.ED at hc;obtain⟨u,hu,rfl⟩:=mem_map.mp hc;have:=Mt.YB _ _ rfl (Mt.fX (OW st) j) u hu;have p2:=S.pm;rw[S.wt] at p2;exact(List.Perm.append_left _ this).trans p2
    ·rw[<-co.len];exact(List.getElem?_eq_some_iff.mp (Y8.mp (Mt.pJ.mp hi).1)).1
   refine⟨s,dx,r,w,_,_,rfl,SA3,_,rfl,Az (λz=> ?_) λz=> ?_⟩
   ·have g1':=k3.lst at2 g1;have g2':=k3.lst at2 g2;have hl24:st.length<=24:=by rw[co.len];exact ok.Hf
    refine⟨⟨_,_,at3,rfl⟩,by rw[sizeLine_eq];decide,λp1 n1=> ?_⟩;have s4:=AR.upd (o:=HO.lst [V.int (j:Nat)]) n1;refine⟨_,s4 _ _ g1',_,AG,by rw[length_map,sizeLine_eq];show _+1<=_;lia,λp2 n2=> ?_⟩;have s5:=s4.trans (AR.upd (o:=HO.lst (nL o++ [V.int (j:Nat)])) n2);refine⟨sl,st,j,_,rfl,s5 _ _ g2',S.lt,hl24,λH5 p3 s6 e6=> ?_⟩;have s7:=s5.trans s6;have hno:nL o++ [V.int (j:Nat)]=nL (o++ [j]):=by unfold nL;rw[map_append];rfl
    refine⟨s,dx,r,p2,p3,ls,_,o++ [j],w,B,_,rfl,SA3.same s7,RV3.mono s7,?_,e6,S.co,ok,hw,S.pm,?_,hB,?_,λH6 k6 SA6=>⟨(k3.trans (Kp.of s7)).trans k6,?_,_,rfl⟩⟩
    ·rw[<-hno];exact s6 _ _ AG
    ·rw[S.wt];have:=S.ln;lia
    ·generalize ((wait st).take k).foldl (λb i=>Mt.scan (vl w ls) b (Mt.ED (o++ [i]) (Mt.wo (wait st) i))) b0=bb at z;cases bb with
     |none=>trivial
     |some y=>exact of_decide_eq_true (p:=Nat.max B (endOf (Valayc.placed w ls (o++ [j])))<y.1) z
    ·rw[ef];rw[S.wt] at SA6;exact SA6
   ·refine⟨k3,?_,_,rfl⟩;rw[ef];generalize ((wait st).take k).foldl (λb i=>Mt.scan (vl w ls) b (Mt.ED (o++ [i]) (Mt.wo (wait st) i))) b0=bb at z SA3;cases bb with
    |none=>exact absurd rfl z
    |some y=>rw[Mt.ZJ (λe=>z (decide_eq_true e)) hcm];exact SA3
  ·obtain⟨k3,SA3,v4,v5,v6,rfl⟩:=pv;rw[length_map,hf.1,take_length,hb0] at SA3;exact q H' ((k1.trans (Kp.of s2)).trans k3) SA3
theorem Tq(T:Txt K mg t):∀n,FO P w K mg AJ t (5+n) t.CN t.CO ["self","order","starts","span"] (Ir t n)
 | 0=>T.HS.aK GO λvs H Q E h=>by obtain⟨s,dx,r,ol,sl,ls,st,o,w,B,b,_,_,_,_,_,_,_,_,_,h,_⟩:=h;lia
 |n+1=>bN T (Tq T n)
theorem UW:FT P w AJ T 30 t.CN t.CO ["self","order","starts","span"] (Ir t 25):=Tq T 25
structure Xi(t:Bz)(H:Hp)(r:Addr)(ty:Ty):Prop where
 ok:∃x fs,ty= .rec_ fs/\Rep t H (.rec_ fs) (.rc r x)/\Mt.wf (.rec_ fs) 6/\Mt.dep fs<=42/\countLeaves (.rec_ fs)<=24
 ls:Mt.QB (leavesOf ty)
theorem Xi.mono{ty:Ty}(h:Xi t H r ty)(k:AR H H'):Xi t H' r ty:=⟨let ⟨x,fs,e,h1,h2⟩:=h.ok;⟨x,fs,e,h1.mono (KO.of k),h2⟩,h.ls⟩
theorem Xi.Xh{ty:Ty}(h:Xi t H r ty):V3 t H r (leavesOf ty):=by obtain⟨x,fs,rfl,h1,_⟩:=h.ok;exact h1.Xh
theorem QW(h:Xi t H r ty)(q:∀H',AR H H'->Q (.int (Valayc.bound ty:Nat)) H'):Ft t 42 [.ref r] H Q E:=by obtain⟨x,fs,rfl,h1,h2,h3,h4⟩:=h.ok;exact⟨r,fs,x,rfl,h1,h2,h3,h4,q⟩
theorem Xi.at_(h:Xi t H r ty):∃dx x lf ll lr,H r=some (.ins t.BD dx (oC x lf ll lr)):=by obtain⟨x,fs,rfl,h1,_⟩:=h.ok;obtain⟨dx,lf,ll,lr,as,ls,rs,h1,_⟩:=h1;exact⟨dx,x,lf,ll,lr,h1⟩
inductive Rt(t:Bz)(vs:List V)(H:Hp)(Q:VK)(E:XK):Prop | mk:∀(r:Addr) (ty:Ty) (w:Nat),vs=[.ref r,.int w]->Xi t H r ty->D4 w->(∀H' p,AR H H'->H' p=some (.lst (nL (leastOf w (leavesOf ty)).2))->Q (.ref p) H')->Rt t vs H Q E
theorem LG:FT P w AJ T 88 t.Ml t.Mm ["record","word"] (Rt t):=by
 refine T.Fc.Cr RY ?_;rintro _ A _ s H _ Q E hr ⟨r,ty,w,rfl,G,hw,q⟩;have nd:=RY.nd;refine⟨_,(AD (ps_sl 2 nd (CL T.qh (Z9 T) hr.lt rfl T.qc (ay T) .nil AK (AB (pv 0) (AB (pv 1) AE))))
   (AD (Au (Ac (pv 2) T.Ci T.MH (UW T) hr.lt (MT T) .nil AK (AB (BU AE) (AB (An i6 (BU (AB (A9 T.Nt) AE)) (AZ Ak rfl T.B7 PySem.boot_len (AB (AQ (pv 0) rfl) AE))) (AB (Ad (pv 0) T.Ao T.DK (Dy T) hr.lt (DM T) .nil AK) AE)))))
   (AH (AO (AQ (pv 2) rfl))))),?_⟩
 walk_at "rd";intro s dx ns nx ne;refine⟨s,dx,r,w,rfl,AG,λH1 k1 SA=>⟨rfl,?_⟩⟩;have s1:AR H H1:=AR.made ns nx λb o e n=>k1 b o n e;obtain⟨bo,at1,_⟩:=id SA;refine⟨⟨_,_,at1,rfl⟩,zero_le _,λp1 n1=> ?_⟩;have s2:=AR.upd (o:=HO.lst []) n1;refine⟨by rw[sizeLine_eq];decide,λp2 n2=> ?_⟩;have s3:=s2.trans (AR.upd (o:=HO.lst [V.int (-1)]) n2);have G1:=G.mono s1;obtain⟨dr,lf,ll,lr,xn,as,rs,R⟩:=(G1.mono s3).Xh;have Hf:=G.ls.Hf;have hal:=R.la.1;refine⟨_,⟨_,_,_,R.at_,T.Ao,T.Ap,rfl⟩,ll,rfl,_,.inl (A4.of R.lv),_,AG,by lia,by rw[length_map,hal];lia,by rw[length_map,hal,sizeLine_eq];show 1 * _<=_;lia,λp3 n3=> ?_⟩;have s4:=s3.trans (AR.upd (o:=HO.lst ((replicate (leavesOf ty).length (none:Option Nat)).map oV)) n3);rw[length_map,hal,Int.toNat_natCast,cw];obtain⟨_,_,_,_,_,atr⟩:=(G1.mono s4).at_;have p12:p1≠p2:=λz=>by rw[<-z,AG] at n2;cases n2
 refine⟨⟨_,_,atr,rfl⟩,QW (G1.mono s4) λH2 s5=> ?_⟩;have s6:=s4.trans s5;have e1:H2 p1=some (.lst (nL [])):=s5 _ _ (by
  rw[AM (λz=>by rw[<-z,AM p12,AG] at n3;cases n3),AM p12];exact AG)
 have e3:H2 p3=some (.lst ((replicate (leavesOf ty).length (none:Option Nat)).map oV)):=s5 _ _ AG;have eb:((Valayc.bound ty:Nat):Int)=(Nat.max (Valayc.bound ty) (endOf (Valayc.placed w (leavesOf ty) [])):Nat):=by rw[show Nat.max (Valayc.bound ty) (endOf (Valayc.placed w (leavesOf ty) []))=Valayc.bound ty from max_eq_left (zero_le _)]
 rw[eb];refine⟨s,dx,r,p1,p3,_,_,[],w,_,none,rfl,SA.same s6,(G1.mono s6).Xh,e1,e3,Mt.Hr.nil _,G.ls,hw,?_,?_,λc hc=>Mt.qW G.ls hw hc,trivial,λH3 k3 SA3=> ?_⟩
 ·rw[Kg];exact List.Perm.refl _
 ·rw[Kg,length_range];lia
 ·rw[Kg] at SA3;have ec:Mt.ED [] (List.range (leavesOf ty).length)=Valayc.orders (leavesOf ty).length:=by
   unfold Mt.ED Valayc.orders;rw[length_range];simp
  rw[ec,Mt.U9] at SA3;obtain⟨b3,at3,l3⟩:=SA3;refine⟨_,⟨_,_,_,at3,T.Ci,T.FQ,rfl⟩,q H3 b3 (λb o e=>k3 b o (λz=>by rw[z,ns] at e;cases e) (s6 _ _ (s1 _ _ e))) l3⟩
end
end Pr
namespace Pr
open PySem PySem.Spec PyProof.Rows L2
open Valaya (Ty Rec Leaf)
open Mt (wd)
def zh:Str:=("rule_order"++ ".<locals>.")++ "<lambda>"
def yN:Pos:=match EF Gp with
 | [_,.Return (some (.Call _ _ [⟨_,.Lambda _ _ _ p,_⟩] _)) _]=>p
 |_=>⟨0,0,0,0⟩
def Pz(t:Bz)(H:Hp):Prop:=Tab t.NW zh yN H
theorem Tab.same{P:Addr}{pos:Pos}(h:Tab P q pos H)(k:AR H H'):Tab P q pos H':=
 let ⟨ps,a,b,c⟩:=h;⟨ps,k _ _ a,b,c.elim .inl λ⟨d,e,f⟩=> .inr ⟨d,e,k _ _ f⟩⟩
theorem Tab.kp{P:Addr}{fs:List (Str×V)}{pos:Pos}(h:Tab P q pos H)(k:Kp r H H')(hr:H r=some (.ins C dx fs)):Tab P q pos H':=
 let ⟨ps,a,b,c⟩:=h;⟨ps,k _ _ (λz=>by rw[z,hr] at a;cases a) a,b,c.elim .inl λ⟨d,e,f⟩=> .inr ⟨d,e,k _ _ (λz=>by rw[z,hr] at f;cases f) f⟩⟩
theorem KO.tab{P:Addr}{pos:Pos}(h:Tab P q pos H)(k:Kp P H H'):KO H H':=λc o ok e=>k c o (λz=>by obtain⟨ps,a,_⟩:=h;rw[z,a] at e;cases e;exact ok) e
theorem gc(e:X.K=K):yT X (uk K):=e ▸ Av
theorem wQ:Uw "number" "leaves" (match EF Gp with
 | [_,.Return (some (.Call _ _ [⟨_,.Lambda _ _ sc _,_⟩] _)) _]=>sc
 |_=>AI Gp):=⟨rfl,rfl,rfl,rfl,rfl,by decide+kernel,by decide+kernel⟩
section
variable{ls:List Leaf}
theorem n9.ko{x:Str}{rs:List Addr}(h:n9 t H r ls dx lf ll lr x as rs)(k:KO H H')(at_:H' r=some (.ins t.BD dx (oC x lf ll lr))):n9 t H' r ls dx lf ll lr x as rs:=⟨at_,k _ _ trivial h.lv,k _ _ trivial h.rv,h.la.mono k,h.ra.mono k⟩
def u4(ls:List Leaf):V->List Int
 | .int z=>match ls[z.toNat]? with
  |some f=> [-((f.align:Nat):Int), -((wd f:Nat):Int),z]
  |none=> [z]
 |_=> [0]
def oG(k:Mt.Key):List Int:=[-((k.a:Nat):Int), -((k.n:Nat):Int),((k.i:Nat):Int)]
theorem kf_at(h:j<ls.length):u4 ls (V.int (j:Nat))=oG (Mt.keyOf ls j):=by unfold u4 Mt.keyOf oG;simp only[Int.toNat_natCast,getElem?_eq_getElem h]
theorem wR{f:Leaf}(h:ls[j]?=some f):Mt.keyOf ls j=⟨f.align,wd f,j⟩:=by unfold Mt.keyOf;rw[h]
theorem wU{p q:Mt.Key}(h:fP (oG q) (oG p)=false):¬Mt.aJ q p:=by
 unfold fP rank oG at h;simp only[map_cons,map_nil,PyProof.Rows.lexLt,itemLt,Bool.or_eq_false_iff,Bool.and_eq_false_iff,decide_eq_false_iff_not,Bool.not_eq_false',decide_eq_true_eq] at h;unfold Mt.aJ
 lia
theorem tF{l:List Nat}(h:ys.Perm (nL l)):∃o,ys=nL o/\o.Perm l:=by
 have e:ys=nL (ys.map λv=>match v with | .int z=>z.toNat | _=>0):=by unfold nL;rw[map_map];refine(map_id ys).symm.trans (map_congr_left λv hv=> ?_);obtain⟨j,_,rfl⟩:=mem_map.mp (h.mem_iff.mp hv);rfl
 refine⟨_,e,?_⟩;have h2:=h.map λv=>match v with | V.int z=>z.toNat | _=>0
 unfold nL at h2;rw[map_map] at h2;exact h2.trans (List.Perm.of_eq ((map_congr_left λj _=>rfl).trans (map_id l)))
inductive Tr(t:Bz)(vs:List V)(H:Hp)(Q:VK)(E:XK):Prop | mk:∀(r:Addr) (ls:List Leaf),vs=[.ref r]->V3 t H r ls->Mt.QB ls->Pz t H->(∀H' p,Pz t H'->Kp t.NW H H'->H' p=some (.lst (nL (ruleOrder ls)))->Q (.ref p) H')->Tr t vs H Q E
theorem zi{CX:fJ}{x qual:Str}{st:Stmt}{f:Addr}{N:List Str}{k:Nat}{sp:Sp}(F:Bm K x qual st f fd)(S:AN N ps (AI st))(len:∀vs H Q E,sp vs H Q E->vs.length=ps.length)
  (hb:∀(He:Value) (A:Around) (Ai:List Env) (s:Shared) (H:Hp) (vs:List V) (Q:VK) (E:XK),fd.code=He->Dc k (A.deeper (envOfC qual (AI st) s.heap.objs.size f He))->sp vs H Q E->
   ∃t,cz (KJ CX P w K mg AJ N qual (AI st) f He A Ai s H E).wa (EF st) t/\t {nx:=λ_ H'=>Q .Fn H',rt:=Q} (start N vs) H):Ih P w K mg AJ CX (k+1) f fd ps sp:=by
 obtain⟨oc,od,kV,doc,pm,an,He,ct,osl,rfl,lk,hcd⟩:=F.ex;exact t9 lk hcd S len λA Ai s H vs Q E hr hsp=>let ⟨t,h,q⟩:=hb He A Ai s H vs Q E rfl hr hsp;⟨t,h.wa,q⟩
theorem NT(BM:OM mg AJ):FT P w AJ T 10 t.Oj t.Ka ["record"] (Tr t):=by
 refine zi T.Gr Td (λ_ _ _ _ h=> ?_) (λHe A Ai s H vs Q E hcd hr h=> ?_)
 ·obtain⟨r,ls,rfl,_⟩:=h;rfl
 ·obtain⟨r,ls,rfl,⟨dx,lf,ll,lr,xn,as,rs,R⟩,ok,tb,q⟩:=h;have nd:=Td.nd;have ecd:He= .ref t.rW:=hcd.symm.trans T.RC;subst ecd;refine⟨_,AD (oy (i:=1) nd rfl (Or.inr rfl) (AQ (pv 0) rfl)) (AH (AO (jd (kf:=u4 ls) (i:=1) (px:= "number") (fx:= "leaves") (k:=6) hr.lt rfl T.gN
   (AB (AV (PK T) hr.lt rfl T.Q4 T.Io.kp (RE T) .nil AK (AB (pv 0) AE)) AE) rfl rfl rfl rfl rfl rfl T.CD BM wQ (by decide) (λ_ _ _ _ _=>rfl)
   (λf c' A s H=>dH (AB (fU Yi (OV (K:=K) (BY (gc (K:=K) rfl) (pv 1) (pv 0) (λ_ _=>rfl)) rfl rfl)) (AB (fU Yi (OV (K:=K) (BY (gc (K:=K) rfl) (pv 1) (pv 0) (λ_ _=>rfl)) rfl rfl)) (AB (pv 0) AE))))))),?_⟩
  walk_at "rd";refine⟨_,⟨_,_,_,R.at_,T.Ao,T.Ap,rfl⟩,?_⟩;unfold pH;walk_at "rd";refine⟨r,ls,rfl,⟨dx,lf,ll,lr,xn,as,rs,R⟩,ok.Hf,λp np=> ?_⟩;have s1:=AR.upd (o:=HO.lst (nL (List.range ls.length))) np;have tb1:Pz t (upd H p (HO.lst (nL (List.range ls.length)))):=Tab.same tb s1;refine⟨p,rfl,_,A4.of AG,tb1,λx hx=> ?_,λH2 tb2 k2=>⟨λx hx H3 s3=> ?_,λH5 p5 ys s5 n5 py pw=> ?_⟩⟩
  ·obtain⟨j,hj,rfl⟩:=mem_map.mp hx;rw[kf_at (mem_range.mp hj)];exact nofun
  ·obtain⟨j,hj,rfl⟩:=mem_map.mp hx;obtain⟨f,hf⟩:∃f,ls[j]?=some f:=⟨_,getElem?_eq_getElem (mem_range.mp hj)⟩;have ko:KO (upd H p (HO.lst (nL (List.range ls.length)))) H3:=KO.trans (KO.tab tb1 k2) (KO.of s3);have R3:=(R.mono s1).ko ko (ko _ _ (show dE≠ie by decide+kernel) (s1 _ _ R.at_));obtain⟨a,da,g,ia,ea,ha⟩:=R3.leaf hf;refine⟨j,rfl,_,⟨_,A4.of R3.lv,ia⟩,a,rfl,_,⟨_,_,_,ha,T.D6,T.Kb,rfl⟩,_,rfl,j,rfl,_,⟨_,A4.of R3.lv,ia⟩,a,rfl,_,⟨_,_,_,ha,T.D6,T.Bu,rfl⟩,_,rfl,by rw[sizeLine_eq];decide,λp4 n4=>⟨AR.upd n4,?_⟩⟩;rw[AG,kf_at (mem_range.mp hj),wR hf];rfl
  ·obtain⟨o,rfl,po⟩:=tF py;have e:o=ruleOrder ls:=by
    refine Mt.nD po ?_;refine(List.pairwise_map.mp pw).imp_of_mem λ{a b} ha hb z=> ?_;have la:=mem_range.mp (po.mem_iff.mp ha);have lb:=mem_range.mp (po.mem_iff.mp hb);rw[kf_at la,kf_at lb] at z;exact wU z
   subst e;exact q _ p5 (Tab.same tb2 (s5.trans (AR.upd n5))) ((Kp.of s1).trans (Kp.trans k2 (Kp.of (s5.trans (AR.upd n5))))) AG
end
end Pr
namespace Pr
open PySem PySem.Spec PyProof.Rows L2
open Valaya (Ty Rec Leaf)
open Mt (wd Ki D4)
section
variable{s:Addr}
abbrev GQ(ty:Ty):List Leaf:=leavesOf ty
abbrev iL(l:List Int):List V:=l.map V.int
theorem U4(h:Xi t H r ty)(q:Q (.int ((GQ ty).length:Nat)) H):Eg t [.ref r] H Q E:=by obtain⟨x,fs,rfl,h1,_⟩:=h.ok;refine⟨r,_,x,rfl,h1,?_⟩;have e:(GQ (.rec_ fs)).length=countLeaves (.rec_ fs):=Mt.Dd ..;rw[<-e];exact q
inductive G0(t:Bz)(vs:List V)(H:Hp)(Q:VK)(E:XK):Prop | mk:∀(r sl:Addr) (ls:List Leaf) (o:List Nat) (w:Nat),vs=[.ref r,.ref sl]->V3 t H r ls->H sl=some (.lst (nL (startsOf ls.length (Valayc.placed w ls o))))->o.Perm (List.range ls.length)->Mt.QB ls->D4 w->(∀H' p,AR H H'->H' p=some (.lst (iL (layoutRow (layoutOf w ls o))))->Q (.ref p) H')->G0 t vs H Q E
theorem LH:FT P w AJ T 2 t.Mr t.Ms ["record","starts"] (G0 t):=by refine T.Fe.Cr Zv ?_;rintro _ A _ s H _ Q E hr ⟨r,sl,ls,o,w,rfl,RV,h1,hp,ok,hw,q⟩;refine⟨_,(AH (AO (An Kk (BU (AB (AV (j6 T) hr.lt rfl T.nI T.WU.kp (nO T) .nil AK (AB (AV (Hw T) hr.lt rfl T.Ke T.GS.kp (Kf T) .nil AK (AB (pv 0) (AB (pv 1) AE))) AE)) AE)) (pv 1)))),?_⟩;walk_at "rd";obtain⟨st,co⟩:=Mt.Im (w:=w) o (hp.nodup_iff.mpr nodup_range) λi hi=>mem_range.mp (hp.mem_iff.mp hi);refine⟨r,sl,ls,_,rfl,RV,h1,Mt.De,ok.pos,ok.Hf,λH1 m s1 hm hle=> ?_⟩;rw[Mt.Y2 co hp ok.pos hm hle];have Hf:=ok.Hf;refine⟨_,rfl,by rw[sizeLine_eq];decide,λp1 n1=> ?_⟩;have s2:=AR.upd (o:=HO.lst [V.int ((bitsOf w ls o+7) / 8:Nat)]) n1;refine⟨_,AG,_,s2 _ _ (s1 _ _ h1),by rw[length_map,Mt.De,sizeLine_eq];show 1+_<=_;lia,λp2 n2=>q _ _ ((s1.trans s2).trans (AR.upd n2)) ?_⟩;rw[AG];unfold layoutRow layoutOf Valayc.nats bitsOf;simp only[map_cons,map_map];rfl
inductive Pp(t:Bz)(vs:List V)(H:Hp)(Q:VK)(E:XK):Prop | mk:∀(r:Addr) (ty:Ty),vs=[.ref r]->Xi t H r ty->Q (.bl (!decide (FEW<(GQ ty).length))) H->Pp t vs H Q E
theorem Jh:FT P w AJ T 2 t.K0 t.K1 ["record"] (Pp t):=by refine T.EU.Cr X0 ?_;rintro _ A _ s H _ Q E hr ⟨r,ty,rfl,G,q⟩;refine⟨_,(AH (AO (KU Jj (Ad (pv 0) T.Ao T.CW (CJ T) hr.lt (CZ T) .nil AK) (A9 T.eU) (AY _)))),?_⟩;walk_at "rd";obtain⟨dx,x,lf,ll,lr,at_⟩:=G.at_;refine⟨⟨_,_,at_,rfl⟩,U4 G ⟨_,rfl,?_⟩⟩;rw[show decide (((GQ ty).length:Int)<=6)= !decide (FEW<(GQ ty).length) by rw[<-decide_not,decide_eq_decide];show _↔¬6<_;lia];exact q
def wg(w:Nat)(ty:Ty):Int:=if FEW<(GQ ty).length then -1 else((leastOf w (GQ ty)).1:Nat)
inductive Ts(t:Bz)(vs:List V)(H:Hp)(Q:VK)(E:XK):Prop | mk:∀(r:Addr) (ty:Ty) (w:Nat),vs=[.ref r,.int w]->Xi t H r ty->D4 w->(∀H',AR H H'->Q (.int (wg w ty)) H')->Ts t vs H Q E
theorem NU:FT P w AJ T 89 t.Ot t.Ou ["record","word"] (Ts t):=by
 refine T.Gs.Cr bE ?_;rintro _ A _ s H _ Q E hr ⟨r,ty,w,rfl,G,hw,q⟩;refine⟨_,(AD (Ay (Mc (Mb (AV (Jh T) hr.lt rfl T.LA T.EU.kp (LB T) .nil AK (AB (pv 0) AE)))) (AH (AO (A9 T.XM))) AX)
   (AH (AO (AV (DN T) hr.lt rfl T.Du T.CQ.kp (Dv T) .nil AK (AB (pv 0) (AB (AV (LG T) hr.lt rfl T.NI T.Fc.kp (NQ T) .nil AK (AB (pv 0) (AB (pv 1) AE))) (AB (pv 1) AE))))))),?_⟩
 walk_at "rd";refine⟨r,ty,rfl,G,_,rfl,Az (λz=> ?_) λz=> ?_⟩
 ·have z:FEW<(GQ ty).length:=by simpa using z
  unfold wg at q;rw[if_pos z] at q;exact q H (AR.refl H)
 ·have z:¬FEW<(GQ ty).length:=by simpa using z
  unfold wg at q;rw[if_neg z] at q;refine⟨r,ty,w,rfl,G,hw,λH1 p s1 e1=>⟨r,p,_,_,w,rfl,(G.mono s1).Xh,e1,Mt.Ku,G.ls,hw,λH2 s2=> ?_⟩⟩;rw[<-Mt.QU.2.2];exact q H2 (s1.trans s2)
inductive Ru(t:Bz)(vs:List V)(H:Hp)(Q:VK)(E:XK):Prop | mk:∀(r:Addr) (ty:Ty) (w:Nat) (m:Int),vs=[.ref r,.int m,.int w]->Xi t H r ty->D4 w->(∀H',AR H H'->Q (.int (if FEW<(GQ ty).length then -1 else m - ((leastOf w (GQ ty)).1:Nat))) H')->Ru t vs H Q E
theorem aB:FT P w AJ T 90 t.Mu t.Mv ["record","span","word"] (Ru t):=by
 refine T.NN.Cr Zw ?_;rintro _ A _ s H _ Q E hr ⟨r,ty,w,m,rfl,G,hw,q⟩;refine⟨_,(AD (Ay (Mc (Mb (AV (Jh T) hr.lt rfl T.LA T.EU.kp (LB T) .nil AK (AB (pv 0) AE)))) (AH (AO (A9 T.XM))) AX)
   (AH (AO (An D5 (pv 1) (AV (NU T) hr.lt rfl T.O5 T.Gs.kp (PD T) .nil AK (AB (pv 0) (AB (pv 2) AE))))))),?_⟩
 walk_at "rd";refine⟨r,ty,rfl,G,_,rfl,Az (λz=> ?_) λz=> ?_⟩
 ·have z:FEW<(GQ ty).length:=by simpa using z
  rw[if_pos z] at q;exact q H (AR.refl H)
 ·have z:¬FEW<(GQ ty).length:=by simpa using z
  rw[if_neg z] at q;refine⟨r,ty,w,rfl,G,hw,λH1 s1=>⟨_,rfl,?_⟩⟩;unfold wg;rw[if_neg z];exact q H1 s1
def Xn(ls:List Leaf)(n:Int)(zs:List Int):Prop:=n<0\/(SIZE:Int)<n\/zs.length≠ls.length\/zs.any (λz=>(index z (8 * SIZE)).isNone)=true
instance(ls:List Leaf)(n:Int)(zs:List Int):Decidable (Xn ls n zs):=by unfold Xn;infer_instance
inductive Vq(t:Bz)(vs:List V)(H:Hp)(Q:VK)(E:XK):Prop | mk:∀(r sl:Addr) (ty:Ty) (n:Int) (zs:List Int),vs=[.ref r,.int n,.ref sl]->Xi t H r ty->H sl=some (.lst (iL zs))->(∀H',AR H H'->Q (.bl (!decide (Xn (GQ ty) n zs))) H')->Vq t vs H Q E
theorem fH:FT P w AJ T 2 t.Qy t.Qz ["record","size","starts"] (Vq t):=by
 refine T.RA.Cr Vc ?_;rintro _ A _ s H _ Q E hr ⟨r,sl,ty,n,zs,rfl,G,h1,q⟩;have nd:=Vc.nd;refine⟨_,(AD (Ay (PW.pt (Wv (Mc (Nd Jj Jj Aj (pv 1) (A9 T.iB))) (QF (AU FV (AZ Ak rfl T.B7 PySem.boot_len (AB (pv 2) AE)) (Ad (pv 0) T.Ao T.CW (CJ T) hr.lt (CZ T) .nil AK) (AY _))))) (AH (AO kH)) AX)
   (AH (AO (AZ (vN rfl) rfl T.yF boot_all (AB (Jk (own:=[("start",3)]) rfl nd (Cb (pv 2)) (B4 rfl) (λ_ _ _ _ _=>(A8 (i:=3) nd rfl (Or.inl rfl) (.inr rfl))) (λ_ _ _ _ _=>Ct) (λ_ _ _ _ _=>(p8 Jj Jj Aj (pv 3) (A9 T.eV)))) AE))))),?_⟩
 walk_at "rd";have Hf:=G.ls.Hf;refine Az (λz1=>Az (λz2=> ?_) λz2=> ?_) λz1=> ?_
 ·rw[decide_eq_true (show Xn (GQ ty) n zs from .inr (.inl (by show (128:Int)<n;lia)))] at q;exact q H (AR.refl H)
 ·obtain⟨dx,x,lf,ll,lr,at_⟩:=G.at_;refine⟨_,.inl (A4.of h1),⟨_,_,at_,rfl⟩,U4 G ⟨rfl,Az (λz3=> ?_) λz3=> ?_⟩⟩
  ·have z3:zs.length≠(GQ ty).length:=λe=>z3 (by rw[length_map,e]);rw[decide_eq_true (show Xn (GQ ty) n zs from .inr (.inr (.inl z3)))] at q;exact q H (AR.refl H)
  ·have z3:=V.int.inj (Classical.not_not.mp z3);rw[length_map] at z3;have Hf:(GQ ty).length<=24:=Hf;refine⟨sl,rfl,⟨_,A4.of h1⟩,λD hD=> ?_⟩;refine OS ((zs.map λz=>decide (0<=z/\z<=1023)).map V.bl) (by simp) (A4.of h1) (by rw[length_map,sizeLine_eq];lia) hD (λi x y H1 Q1 hx hy s1 q1=> ?_) λH2 s2 e2=> ?_
   ·obtain⟨z,hz,rfl⟩:=A5 hx;obtain⟨c,hc,rfl⟩:=A5 hy;obtain⟨z',hz',rfl⟩:=A5 hc;rw[hz] at hz';cases hz';have q2:=q1 H1 (AR.refl H1);refine Az (λy1=> ?_) λy1=> ?_
    ·rw[show decide (0<=z/\z<=1023)=decide (z<=1023) by rw[decide_eq_decide];have:=of_decide_eq_true y1;lia] at q2;exact q2
    ·rw[show decide (0<=z/\z<=1023)=false by rw[decide_eq_false_iff_not];exact λy=>y1 (decide_eq_true y.1)] at q2;exact q2
   ·refine⟨D,rfl,_,A4.of e2,?_⟩;have e:(!decide (Xn (GQ ty) n zs))=(zs.map λz=>decide (0<=z/\z<=1023)).all id:=by
     rw[<-decide_not,Bool.eq_iff_iff,decide_eq_true_eq,all_eq_true];unfold Xn;have hS:(SIZE:Int)=128:=rfl;constructor
     ·intro h b hb;obtain⟨z,hz,rfl⟩:=mem_map.mp hb;refine decide_eq_true (Classical.byContradiction λz0=>h (.inr (.inr (.inr (any_eq_true.mpr ⟨z,hz,?_⟩)))));unfold index;rw[if_neg (λy=>z0 ⟨y.1,by have:=y.2;have:(8 * SIZE:Nat)=1024:=rfl;lia⟩)];rfl
     ·rintro h (z0 | z0 | z0 | z0)
      ·lia
      ·lia
      ·lia
      ·obtain⟨z,hz,e⟩:=any_eq_true.mp z0;have:=of_decide_eq_true (h _ (mem_map.mpr ⟨z,hz,rfl⟩));unfold index at e;rw[if_pos ⟨this.1,by have:=this.2;have:(8 * SIZE:Nat)=1024:=rfl;lia⟩] at e;cases e
    rw[<-e];exact q H2 s2
 ·rw[decide_eq_true (show Xn (GQ ty) n zs from .inl (by lia))] at q;exact q H (AR.refl H)
def Kq(t:Bz)(H:Hp)(as:List Addr)(AS:List Rec):Prop:=as.length=AS.length/\∀(i:Nat) (a:Addr) (r:Rec),as[i]?=some a->AS[i]?=some r->Xi t H a r.t
theorem Kq.mono{as:List Addr}{AS:List Rec}(h:Kq t H as AS)(k:AR H H'):Kq t H' as AS:=⟨h.1,λi a r h1 h2=>(h.2 i a r h1 h2).mono k⟩
structure rL(t:Bz)(H:Hp)(k dx l:Addr)(as:List Addr)(AS:List Rec):Prop where
 at_:H k=some (.ins t.BX dx [("records",.ref l)])
 lst:H l=some (.lst (as.map V.ref))
 tX:Kq t H as AS
 Hf:AS.length<=6
inductive NY(t:Bz)(H:Hp)(k:Addr)(AS:List Rec):Prop | mk:∀dx l as,rL t H k dx l as AS->NY t H k AS
theorem rL.mono{k dx l:Addr}{as:List Addr}{AS:List Rec}(h:rL t H k dx l as AS)(s:AR H H'):rL t H' k dx l as AS:=⟨s _ _ h.at_,s _ _ h.lst,h.tX.mono s,h.Hf⟩
theorem rL.get{k:Addr}(h:rL t H k dx l as AS){r:Rec}(hr:AS[i]?=some r):∃a,iR (as.map V.ref) (i:Int)=some (.ref a)/\Xi t H a r.t:=by obtain⟨hl,_⟩:=List.getElem?_eq_some_iff.mp hr;obtain⟨a,ea⟩:∃a,as[i]?=some a:=⟨_,getElem?_eq_getElem (by rw[h.tX.1];exact hl)⟩;exact⟨a,Fp (by rw[getElem?_map,ea];rfl),h.tX.2 i a r ea hr⟩
def nz(w:Int):Prop:=0<=w/\Valayc.WORDS.contains w.toNat=true
instance(w:Int):Decidable (nz w):=by unfold nz;infer_instance
theorem YK{w:Int}:nz w↔∃u:Nat,w=u/\D4 u:=by
 unfold nz WORDS Mt.D4;constructor
 ·rintro⟨h1,h2⟩;have h2:=contains_iff_mem.mp h2;simp only[mem_cons,not_mem_nil,or_false] at h2;exact⟨w.toNat,by lia,h2⟩
 ·rintro⟨u,rfl,h⟩;refine⟨by lia,contains_iff_mem.mpr ?_⟩;simp only[mem_cons,not_mem_nil,or_false,Int.toNat_natCast];exact h
def V5(AS:List Rec)(r w:Int):Int:=if AS.length=0 then -1 else if ¬(0<=r/\r<AS.length) then -2 else if ¬nz w then -3 else 0
inductive Tt(t:Bz)(vs:List V)(H:Hp)(Q:VK)(E:XK):Prop | mk:∀(k:Addr) (AS:List Rec) (r w:Int),vs=[.ref k,.int r,.int w]->NY t H k AS->Q (.int (V5 AS r w)) H->Tt t vs H Q E
theorem Cy:FT P w AJ T 1 t.FH t.FI ["self","r","w"] (Tt t):=by
 refine T.Jv.Cr R9 ?_;rintro _ A _ s H _ Q E hr ⟨k,AS,r,w,rfl,⟨dx,l,as,h⟩,q⟩;refine⟨_,(AD (Ay (AU B3 (AZ Ak rfl T.B7 PySem.boot_len (AB (AQ (pv 0) rfl) AE)) Aj (AY _)) (AH (AO (A9 T.VU))) AX)
   (AD (Ay (Mc (Nd Jj GR Aj (pv 1) (AZ Ak rfl T.B7 PySem.boot_len (AB (AQ (pv 0) rfl) AE)))) (AH (AO (A9 T.Wj))) AX)
   (AD (Ay (AU Oh (pv 2) (fW T.lT) (by with_unfolding_all rfl)) (AH (AO (A9 T.RU))) AX)
   (AH (AO Aj))))),?_⟩
 walk_at "rd";have hl:(as.map V.ref).length=AS.length:=by rw[length_map,h.tX.1]
 have Hf:=h.Hf;unfold V5 at q;refine⟨_,⟨_,_,_,h.at_,T.BB,T.A3,rfl⟩,l,rfl,_,.inl (A4.of h.lst),rfl,Az (λz1=> ?_) λz1=> ?_⟩
 ·rw[if_pos (by lia)] at q;exact q
 rw[if_neg (by lia)] at q;refine Az (λz2=>⟨_,⟨_,_,_,h.at_,T.BB,T.A3,rfl⟩,l,rfl,_,.inl (A4.of h.lst),Az (λz3=> ?_) λz3=> ?_⟩) λz2=> ?_
 ·rw[if_pos (by lia)] at q;exact q
 ·rw[if_neg (by lia)] at q;have ew:mI (V.int w) [V.int 0,V.int 8,V.int 16,V.int 32,V.int 64]=decide (nz w):=by
   rw[Bool.eq_iff_iff,decide_eq_true_eq,YK];unfold mI;simp only[any_cons,any_nil,Bool.or_false,Bool.or_eq_true,mH,beq_iff_eq];unfold Mt.D4;constructor
   ·intro z;exact⟨w.toNat,by lia,by lia⟩
   ·rintro⟨u,rfl,z⟩;lia
  refine⟨_,.inr (T.lU.sq H),rfl,rfl,Az (λz4=> ?_) λz4=> ?_⟩
  ·rw[ew] at z4;rw[if_pos (of_decide_eq_false z4)] at q;exact q
  ·rw[ew] at z4;rw[if_neg (λz=>z4 (decide_eq_false z))] at q;exact q
 ·rw[if_pos (by lia)] at q;exact q
def Wy(AS:List Rec)(r w:Int):Int:=if V5 AS r w=0 then(match AS[r.toNat]? with
 |some x=>if FEW<(GQ x.t).length then -6 else 0
 |none=>0) else V5 AS r w
inductive MZ(t:Bz)(vs:List V)(H:Hp)(Q:VK)(E:XK):Prop | mk:∀(k:Addr) (AS:List Rec) (r w:Int),vs=[.ref k,.int r,.int w]->NY t H k AS->Q (.int (Wy AS r w)) H->MZ t vs H Q E
theorem DD:FT P w AJ T 3 t.DS t.DT ["self","r","w"] (MZ t):=by
 refine T.Gb.Cr Fm ?_;rintro _ A _ s H _ Q E hr ⟨k,AS,r,w,rfl,⟨dx,l,as,h⟩,q⟩;have nd:=Fm.nd;refine⟨_,(AD (ps_sl 3 nd (Ac (pv 0) T.BB T.DE (Cy T) hr.lt (DH T) .nil AK (AB (pv 1) (AB (pv 2) AE))))
   (AD (Ay (PW.pt (JK (AU B3 (pv 3) Aj (AY _)) (Fo (Mc (Mb (AV (Jh T) hr.lt rfl T.LA T.EU.kp (LB T) .nil AK (AB (BY Av (AQ (pv 0) rfl) (pv 1) (λ_ _=>rfl)) AE))))))) (AH (AO (A9 T.Vu))) AX)
   (AH (AO (pv 3))))),?_⟩
 walk_at "rd";refine⟨⟨_,_,h.at_,rfl⟩,k,AS,r,w,rfl,⟨dx,l,as,h⟩,rfl,Az (λz=> ?_) λz=> ?_⟩
 ·have z:=V.int.inj z;unfold Wy at q;rw[if_pos z] at q;have hr:0<=r/\r<AS.length:=by
   unfold V5 at z;rcases Decidable.em (AS.length=0) with z1 | z1
   ·rw[if_pos z1] at z;lia
   rw[if_neg z1] at z;rcases Decidable.em (0<=r/\r<AS.length) with z2 | z2
   ·exact z2
   ·rw[if_pos z2] at z;lia
  obtain⟨x,hx⟩:∃x,AS[r.toNat]?=some x:=⟨_,getElem?_eq_getElem (by lia)⟩;obtain⟨a,ia,G⟩:=h.get hx;rw[hx] at q;rw[show ((r.toNat:Nat):Int)=r by lia] at ia;refine⟨_,⟨_,_,_,h.at_,T.BB,T.A3,rfl⟩,l,rfl,_,⟨_,A4.of h.lst,ia⟩,a,_,rfl,G,_,rfl,Az (λz2=> ?_) λz2=> ?_⟩
  ·have z2:FEW<(GQ x.t).length:=by simpa using z2
   dsimp only at q;rw[if_pos z2] at q;exact q
  ·have z2:¬FEW<(GQ x.t).length:=by simpa using z2
   dsimp only at q;rw[if_neg z2] at q;rw[z];exact q
 ·unfold Wy at q;rw[if_neg (λe=>z (by rw[e]))] at q;exact q
end
end Pr
namespace Pr
open PySem PySem.Spec PyProof.Rows L2
open Valaya (Ty Rec Leaf)
open ValayBase (Answer one)
open Mt (wd Ki D4)
section
variable{r w:Int}
def Bw(AS:List Rec):Valayc.Obj:=if AS.length=0 then none else some AS
def YQ(AS:List Rec)(c:Valayc.Call):List Int:=ValaycNeutral.encode (Valayc.step (Bw AS) c).2
def D7(AS:List Rec)(r w:Int)(f:Nat->Ty->List Leaf->Answer):Answer:=match Bw AS with
 |none=>one (-1)
 |some x=>Valayc.withRec x r λt ls=>withWord w λw=>f w t ls
theorem Of{f:Nat->Ty->List Leaf->Answer}(h:V5 AS r w<0):D7 AS r w f=one (V5 AS r w):=by
 unfold V5 at h ⊢;unfold D7 Bw;rcases Decidable.em (AS.length=0) with z1 | z1
 ·rw[if_pos z1,if_pos z1]
 rw[if_neg z1] at h;rw[if_neg z1,if_neg z1];show Valayc.withRec AS r _=_;unfold Valayc.withRec index;rcases Decidable.em (0<=r/\r<AS.length) with z2 | z2
 ·rw[if_neg (Classical.not_not.mpr z2)] at h;rw[if_pos z2,if_neg (Classical.not_not.mpr z2)];have hl:r.toNat<AS.length:=by lia
  show (match AS[r.toNat]? with | none=>_ | some x=>_)=_;rw[getElem?_eq_getElem hl];show withWord w _=_;unfold withWord;rcases Decidable.em (nz w) with z3 | z3
  ·rw[if_neg (Classical.not_not.mpr z3)] at h;lia
  ·rw[if_pos z3,if_neg (show ¬(0<=w/\Valayc.WORDS.contains w.toNat=true) from z3)]
 ·rw[if_neg z2,if_pos z2];rfl
theorem Kh(h:¬V5 AS r w<0):V5 AS r w=0/\∃(i:Nat) (x:Rec) (u:Nat),r=i/\AS[i]?=some x/\w=u/\D4 u/\∀f,D7 AS r w f=f u x.t (GQ x.t):=by
 unfold V5 at h ⊢;rcases Decidable.em (AS.length=0) with z1 | z1
 ·rw[if_pos z1] at h;lia
 rw[if_neg z1] at h ⊢;rcases Decidable.em (0<=r/\r<AS.length) with z2 | z2
 ·rw[if_neg (Classical.not_not.mpr z2)] at h ⊢;rcases Decidable.em (nz w) with z3 | z3
  ·rw[if_neg (Classical.not_not.mpr z3)];obtain⟨u,rfl,hu⟩:=YK.mp z3;have hl:r.toNat<AS.length:=by lia
   refine⟨rfl,r.toNat,AS[r.toNat],u,by lia,getElem?_eq_getElem hl,rfl,hu,λf=> ?_⟩;unfold D7 Bw;rw[if_neg z1];show Valayc.withRec AS r _=_;unfold Valayc.withRec index;rw[if_pos z2];show (match AS[r.toNat]? with | none=>_ | some x=>_)=_;rw[getElem?_eq_getElem hl];show withWord (u:Int) _=_;unfold withWord;rw[if_pos (show (0<=(u:Int)/\Valayc.WORDS.contains (u:Int).toNat=true) from z3),Int.toNat_natCast]
  ·rw[if_pos z3] at h;lia
 ·rw[if_pos z2] at h;lia
theorem Wf{g:Nat->Ty->List Leaf->Answer}(h:Wy AS r w<0):D7 AS r w (λu t ls=>withFew ls λ_=>g u t ls)=one (Wy AS r w):=by
 unfold Wy at h ⊢;rcases Decidable.em (V5 AS r w=0) with z | z
 ·rw[if_pos z] at h ⊢;obtain⟨_,i,x,u,rfl,hx,rfl,hu,hf⟩:=Kh (AS:=AS) (r:=r) (w:=w) (by lia);rw[Int.toNat_natCast,hx] at h ⊢;dsimp only at h ⊢;rw[hf];unfold withFew;rcases Decidable.em (FEW<(GQ x.t).length) with z2 | z2
  ·rw[if_pos z2,if_pos z2]
  ·rw[if_neg z2] at h;lia
 ·rw[if_neg z] at h ⊢;exact Of h
theorem Y9(h:¬Wy AS r w<0):∃(i:Nat) (x:Rec) (u:Nat),r=i/\AS[i]?=some x/\w=u/\D4 u/\¬FEW<(GQ x.t).length/\∀g:Nat->Ty->List Leaf->Answer,D7 AS r w (λu t ls=>withFew ls λ_=>g u t ls)=g u x.t (GQ x.t):=by
 unfold Wy at h;rcases Decidable.em (V5 AS r w=0) with z | z
 ·rw[if_pos z] at h;obtain⟨_,i,x,u,rfl,hx,rfl,hu,hf⟩:=Kh (AS:=AS) (r:=r) (w:=w) (by lia);rw[Int.toNat_natCast,hx] at h;dsimp only at h;rcases Decidable.em (FEW<(GQ x.t).length) with z2 | z2
  ·rw[if_pos z2] at h;lia
  ·refine⟨i,x,u,rfl,hx,rfl,hu,z2,λg=> ?_⟩;rw[hf];unfold withFew;rw[if_neg z2]
 ·rw[if_neg z] at h;exact absurd (Kh (AS:=AS) (r:=r) (w:=w) h).1 z
theorem tG{l:List Int}:YQ AS (.fit r w l)=ValaycNeutral.encode (D7 AS r w λw t ls=>match readOrder ls.length l with
  |none=>one (-4)
  |some q=>⟨(bitsOf w ls q:Int),layoutRow (layoutOf w ls q)⟩):=by unfold YQ D7;cases Bw AS<;>rfl
theorem nZ:YQ AS (.least r w)=ValaycNeutral.encode (D7 AS r w λw t ls=>withFew ls λ_=>Valayc.leastAnswer w ls):=by unfold YQ D7;cases Bw AS<;>rfl
theorem qy:YQ AS (.rule r w)=ValaycNeutral.encode (D7 AS r w λw t ls=>Valayc.ruleAnswer w t ls):=by unfold YQ D7;cases Bw AS<;>rfl
theorem ng:YQ AS (.waste r w)=ValaycNeutral.encode (D7 AS r w λw t ls=>withFew ls λ_=>let m:=(leastOf w ls).1;⟨((m:Nat):Int) - (Valayc.bound t:Int),[((bitsOf w ls (ruleOrder ls):Nat):Int) - (m:Int),((bitsOf w ls (List.range ls.length):Nat):Int) - (m:Int)]⟩):=by unfold YQ D7;cases Bw AS<;>rfl
theorem j9:YQ AS (.orders r w)=ValaycNeutral.encode (D7 AS r w λw t ls=>withFew ls λ_=>⟨((Valayc.orders ls.length).length:Int),Valayc.nats (leastCount w ls::(leastOf w ls).2)⟩):=by unfold YQ D7;cases Bw AS<;>rfl
theorem nh{n:Int}{l:List Int}:YQ AS (.judge r w n l)=ValaycNeutral.encode (D7 AS r w λw t ls=>judgeCall w t ls n l):=by unfold YQ D7;cases Bw AS<;>rfl
end
section
variable{s:Addr}
def ON(H:Hp)(Q:VK)(l:List Int):Prop:=∀H' p,H p=none->AR H H'->H' p=some (.lst (iL l))->Q (.ref p) H'
theorem ON.mono{l:List Int}(h:ON H Q l)(k:AR H H'):ON H' Q l:=λH1 p n s e=>h H1 p (k.free n) (k.trans s) e
theorem JO{v:Int}(q:ON H Q [v]):1<=sizeLine/\∀(p:Addr),H p=none->Q (V.ref p) (upd H p (HO.lst [V.int v])):=
 ⟨by rw[sizeLine_eq];decide,λp n=>q _ p n (AR.upd n) AG⟩
theorem gf{w:Nat}{ls:List Leaf}{o:List Nat}{m:Nat}(hp:o.Perm (List.range ls.length))(ok:Mt.QB ls)(hm:m∈Mt.ends ls (startsOf ls.length (Valayc.placed w ls o)))(hle:∀y∈Mt.ends ls (startsOf ls.length (Valayc.placed w ls o)),y<=m):m=bitsOf w ls o:=by obtain⟨st,co⟩:=Mt.Im (w:=w) o (hp.nodup_iff.mpr nodup_range) λi hi=>mem_range.mp (hp.mem_iff.mp hi);exact Mt.Y2 co hp ok.pos hm hle
theorem Cu{w:Nat}{ls:List Leaf}{o:List Nat}:(layoutRow (layoutOf w ls o)).length=ls.length+1:=by unfold layoutRow layoutOf Valayc.nats;rw[length_map,length_cons,Mt.De]
theorem pY{ls:List Leaf}{o:List Nat}{w:Nat}{sl:Addr}{l:List Int}(RV:V3 t H r ls)(h1:H sl=some (.lst (nL (startsOf ls.length (Valayc.placed w ls o)))))(hp:o.Perm (List.range ls.length))(ok:Mt.QB ls)(hw:D4 w)(hl:l.length<=24)(n:H p=none)
  (q:ON H Q (l++layoutRow (layoutOf w ls o))):G0 t [.ref r,.ref sl] (upd H p (.lst (iL l))) (λy H2=>∃x,y=V.ref x/\∃x_5,H2 p=some (HO.lst x_5)/\∃x_6,H2 x=some (HO.lst x_6)/\x_5.length+x_6.length<=sizeLine/\∀(p:Addr),H2 p=none->Q (V.ref p) (upd H2 p (HO.lst (x_5++x_6)))) E:=by
 have s1:=AR.upd (o:=HO.lst (iL l)) n;have Hf:=ok.Hf;refine⟨r,sl,ls,o,w,rfl,RV.mono s1,s1 _ _ h1,hp,ok,hw,λH2 p2 s2 e2=>⟨p2,rfl,_,s2 _ _ AG,_,e2,?_,λp3 n3=> ?_⟩⟩
 ·rw[length_map,length_map,Cu,sizeLine_eq];lia
 ·refine q _ p3 ((s1.trans s2).free n3) ((s1.trans s2).trans (AR.upd n3)) ?_;rw[AG];unfold iL;rw[map_append]
theorem mE{ls:List Leaf}{o:List Nat}{w:Nat}{sl:Addr}(RV:V3 t H r ls)(h1:H sl=some (.lst (nL (startsOf ls.length (Valayc.placed w ls o)))))(hp:o.Perm (List.range ls.length))(ok:Mt.QB ls)(hw:D4 w)
  (q:ON H Q (((bitsOf w ls o:Nat):Int)::layoutRow (layoutOf w ls o))):UK t [.ref r,.ref sl] H (λx_4 H1=>1<=sizeLine/\∀(p:Addr),H1 p=none->G0 t [.ref r,.ref sl] (upd H1 p (HO.lst [x_4])) (λy H2=>∃x,y=V.ref x/\∃x_5,H2 p=some (HO.lst x_5)/\∃x_6,H2 x=some (HO.lst x_6)/\x_5.length+x_6.length<=sizeLine/\∀(p:Addr),H2 p=none->Q (V.ref p) (upd H2 p (HO.lst (x_5++x_6)))) E) E:=by
 refine⟨r,sl,ls,_,rfl,RV,h1,Mt.De,ok.pos,ok.Hf,λH1 m s1 hm hle=>⟨by rw[sizeLine_eq];decide,λp n=> ?_⟩⟩;rw[gf hp ok hm hle];exact pY (l:=[((bitsOf w ls o:Nat):Int)]) (RV.mono s1) (s1 _ _ h1) hp ok hw (by show 1<=24;decide) n (q.mono s1)
theorem eF{K:Frag}:∀{zs:List Int},YW K H (iL zs) (zs.map PyData.int)
 | []=> .nil
 |z::zs=> .cons (.int z) eF
def QN(t:Bz)(H:Hp)(Q:VK)(l:List Int):Prop:=∀H' p,H p=none->Pz t H'->Kp t.NW H H'->H' p=some (.lst (iL l))->Q (.ref p) H'
theorem QN.gives{l:List Int}(q:QN t H Q l)(tb:Pz t H):ON H Q l:=λH' p n s e=>q H' p n (Tab.same tb s) (Kp.of s) e
theorem tH(tb:Pz t H)(e:H p=some (.lst xs)):Pz t (upd H p (.lst ys)):=
 let ⟨ps,a,b,c⟩:=tb;⟨ps,by rw[AM (λz=>by rw[z,e] at a;cases a)];exact a,b,c.elim .inl λ⟨d,f,g⟩=> .inr ⟨d,f,by rw[AM (λz=>by rw[z,e] at g;cases g)];exact g⟩⟩
theorem qz(tb:Pz t H')(k:Kp t.NW H H')(n:H' p=none):H p=none:=by
 cases e:H p with
 |none=>rfl
 |some o=>obtain⟨ps,e2,_⟩:=tb;rw[k _ _ (λz=>by rw[z,e2] at n;cases n) e] at n;cases n
theorem QN.step{l:List Int}(q:QN t H Q l)(tb:Pz t H')(k:Kp t.NW H H'):ON H' Q l:=λH2 p n s e=>q H2 p (qz tb k n) (Tab.same tb s) (k.trans (Kp.of s)) e
theorem Xi.tab(h:Xi t H r ty)(tb:Pz t H)(k:Kp t.NW H H'):Xi t H' r ty:=⟨let ⟨x,fs,e,h1,h2⟩:=h.ok;⟨x,fs,e,h1.mono (KO.tab tb k),h2⟩,h.ls⟩
inductive gh(t:Bz)(vs:List V)(H:Hp)(Q:VK)(E:XK):Prop | mk:∀(k:Addr) (AS:List Rec) (r w:Int),vs=[.ref k,.int r,.int w]->NY t H k AS->ON H Q (YQ AS (.least r w))->gh t vs H Q E
theorem X1:FT P w AJ T 92 t.K2 t.K3 ["self","r","w"] (gh t):=by
 refine T.RQ.Cr Pg ?_;rintro _ A _ s H _ Q E hr ⟨k,AS,r,w,rfl,⟨dx,l,as,h⟩,q⟩;have nd:=Pg.nd;refine⟨_,(AD (ps_sl 3 nd (Ac (pv 0) T.BB T.DU (DD T) hr.lt (DY T) .nil AK (AB (pv 1) (AB (pv 2) AE))))
   (AD (Ay (AU GR (pv 3) Aj (AY _)) (AH (AO (BU (AB (pv 3) AE)))) AX)
   (AD (ps_sl 4 nd (BY Av (AQ (pv 0) rfl) (pv 1) (λ_ _=>rfl)))
   (Lu (AD (ps_sl 5 nd (AV (Fu T) hr.lt rfl T.Gy T.DL.kp (Gz T) .nil AK (AB (pv 4) (AB (AV (LG T) hr.lt rfl T.NI T.Fc.kp (NQ T) .nil AK (AB (pv 4) (AB (pv 2) AE))) (AB (pv 2) AE)))))
   (AH (AO (An Kk (BU (AB (AV (Hw T) hr.lt rfl T.Ke T.GS.kp (Kf T) .nil AK (AB (pv 4) (AB (pv 5) AE))) AE)) (AV (LH T) hr.lt rfl T.NJ T.Fe.kp (NR T) .nil AK (AB (pv 4) (AB (pv 5) AE))))))))))),?_⟩
 walk_at "rd";rw[nZ] at q;refine⟨⟨_,_,h.at_,rfl⟩,k,AS,r,w,rfl,⟨dx,l,as,h⟩,_,rfl,Az (λz=> ?_) λz=> ?_⟩
 ·rw[Wf z] at q;exact JO q
 ·obtain⟨i,x,u,rfl,hx,rfl,hu,hfew,hf⟩:=Y9 z;rw[hf] at q;obtain⟨a,ia,G⟩:=h.get hx;refine⟨_,⟨_,_,_,h.at_,T.BB,T.A3,rfl⟩,l,rfl,_,⟨_,A4.of h.lst,ia⟩,?_⟩;refine fO ?_;walk_at "rd";refine⟨a,_,u,rfl,G,hu,λH1 p1 s1 e1=>⟨a,p1,_,_,u,rfl,(G.mono s1).Xh,e1,Mt.Ku,G.ls,hu,λH2 p2 s2 e2=> ?_⟩⟩;refine mE ((G.mono s1).mono s2).Xh e2 Mt.Ku G.ls hu ?_;rw[<-Mt.QU.2.2];exact q.mono (s1.trans s2)
inductive mF(t:Bz)(vs:List V)(H:Hp)(Q:VK)(E:XK):Prop | mk:∀(k:Addr) (AS:List Rec) (r w:Int),vs=[.ref k,.int r,.int w]->NY t H k AS->Pz t H->QN t H Q (YQ AS (.rule r w))->mF t vs H Q E
theorem aC(BM:OM mg AJ):FT P w AJ T 92 t.NG t.NH ["self","r","w"] (mF t):=by
 refine T.TX.Cr Rh ?_;rintro _ A _ s H _ Q E hr ⟨k,AS,r,w,rfl,⟨dx,l,as,h⟩,tb,q⟩;have nd:=Rh.nd;refine⟨_,(AD (ps_sl 3 nd (Ac (pv 0) T.BB T.DE (Cy T) hr.lt (DH T) .nil AK (AB (pv 1) (AB (pv 2) AE))))
   (AD (Ay (AU GR (pv 3) Aj (AY _)) (AH (AO (BU (AB (pv 3) AE)))) AX)
   (AD (ps_sl 4 nd (BY Av (AQ (pv 0) rfl) (pv 1) (λ_ _=>rfl)))
   (Lu (AD (ps_sl 5 nd (AV (Fu T) hr.lt rfl T.Gy T.DL.kp (Gz T) .nil AK (AB (pv 4) (AB (AV (NT T BM) hr.lt rfl T.O4 T.Gr.kp (PB T) .nil AK (AB (pv 4) AE)) (AB (pv 2) AE)))))
   (AH (AO (An Kk (BU (AB (AV (Hw T) hr.lt rfl T.Ke T.GS.kp (Kf T) .nil AK (AB (pv 4) (AB (pv 5) AE))) (AB (Ad (pv 4) T.Ao T.DK (Dy T) hr.lt (DM T) .nil AK) AE))) (AV (LH T) hr.lt rfl T.NJ T.Fe.kp (NR T) .nil AK (AB (pv 4) (AB (pv 5) AE))))))))))),?_⟩
 walk_at "rd";rw[qy] at q;refine⟨⟨_,_,h.at_,rfl⟩,k,AS,r,w,rfl,⟨dx,l,as,h⟩,_,rfl,Az (λz=> ?_) λz=> ?_⟩
 ·rw[Of z] at q;exact JO (q.gives tb)
 ·obtain⟨_,i,x,u,rfl,hx,rfl,hu,hf⟩:=Kh z;rw[hf] at q;obtain⟨a,ia,G⟩:=h.get hx;refine⟨_,⟨_,_,_,h.at_,T.BB,T.A3,rfl⟩,l,rfl,_,⟨_,A4.of h.lst,ia⟩,?_⟩;refine fO ?_;walk_at "rd";have rp:=(Mt.YC (ls:=GQ x.t)).1;refine⟨a,_,rfl,G.Xh,G.ls,tb,λH1 p1 tb1 k1 e1=>⟨a,p1,_,_,u,rfl,(G.tab tb k1).Xh,e1,rp,G.ls,hu,λH2 p2 s2 e2=> ?_⟩⟩;have G2:=(G.tab tb k1).mono s2;refine⟨a,p2,_,_,rfl,G2.Xh,e2,Mt.De,G.ls.pos,G.ls.Hf,λH3 m s3 hm hle=> ?_⟩;rw[gf rp G.ls hm hle];obtain⟨_,_,_,_,_,at3⟩:=(G2.mono s3).at_;refine⟨⟨_,_,at3,rfl⟩,QW (G2.mono s3) λH4 s4=>⟨by rw[sizeLine_eq];decide,λp n=> ?_⟩⟩;exact pY (l:=[((bitsOf u (GQ x.t) (ruleOrder (GQ x.t)):Nat):Int),(Valayc.bound x.t:Nat)]) ((G2.mono s3).mono s4).Xh (s4 _ _ (s3 _ _ e2)) rp G.ls hu (by show 2<=24;decide) n ((q.step tb1 k1).mono ((s2.trans s3).trans s4))
inductive gj(t:Bz)(vs:List V)(H:Hp)(Q:VK)(E:XK):Prop | mk:∀(k:Addr) (AS:List Rec) (r w:Int),vs=[.ref k,.int r,.int w]->NY t H k AS->Pz t H->QN t H Q (YQ AS (.waste r w))->gj t vs H Q E
theorem X2(BM:OM mg AJ):FT P w AJ T 92 t.K4 t.K5 ["self","r","w"] (gj t):=by
 refine T.RR.Cr Ph ?_;rintro _ A _ s H _ Q E hr ⟨k,AS,r,w,rfl,⟨dx,l,as,h⟩,tb,q⟩;have nd:=Ph.nd;refine⟨_,(AD (ps_sl 3 nd (Ac (pv 0) T.BB T.DU (DD T) hr.lt (DY T) .nil AK (AB (pv 1) (AB (pv 2) AE))))
   (AD (Ay (AU GR (pv 3) Aj (AY _)) (AH (AO (BU (AB (pv 3) AE)))) AX)
   (AD (ps_sl 4 nd (BY Av (AQ (pv 0) rfl) (pv 1) (λ_ _=>rfl)))
   (Lu (AD (ps_sl 5 nd (AV (NU T) hr.lt rfl T.O5 T.Gs.kp (PD T) .nil AK (AB (pv 4) (AB (pv 2) AE))))
   (AD (ps_sl 6 nd (AV (DN T) hr.lt rfl T.Du T.CQ.kp (Dv T) .nil AK (AB (pv 4) (AB (AV (NT T BM) hr.lt rfl T.O4 T.Gr.kp (PB T) .nil AK (AB (pv 4) AE)) (AB (pv 2) AE)))))
   (AD (ps_sl 7 nd (AV (DN T) hr.lt rfl T.Du T.CQ.kp (Dv T) .nil AK (AB (pv 4) (AB (AV (PK T) hr.lt rfl T.Q4 T.Io.kp (RE T) .nil AK (AB (pv 4) AE)) (AB (pv 2) AE)))))
   (AH (AO (BU (AB (An D5 (pv 5) (Ad (pv 4) T.Ao T.DK (Dy T) hr.lt (DM T) .nil AK)) (AB (An D5 (pv 6) (pv 5)) (AB (An D5 (pv 7) (pv 5)) AE))))))))))))),?_⟩
 walk_at "rd";rw[ng] at q;refine⟨⟨_,_,h.at_,rfl⟩,k,AS,r,w,rfl,⟨dx,l,as,h⟩,_,rfl,Az (λz=> ?_) λz=> ?_⟩
 ·rw[Wf z] at q;exact JO (q.gives tb)
 ·obtain⟨i,x,u,rfl,hx,rfl,hu,hfew,hf⟩:=Y9 z;rw[hf] at q;obtain⟨a,ia,G⟩:=h.get hx;refine⟨_,⟨_,_,_,h.at_,T.BB,T.A3,rfl⟩,l,rfl,_,⟨_,A4.of h.lst,ia⟩,?_⟩;refine fO ?_;walk_at "rd";have rp:=(Mt.YC (ls:=GQ x.t)).1;refine⟨a,_,u,rfl,G,hu,λH1 s1=>⟨a,_,rfl,(G.mono s1).Xh,G.ls,Tab.same tb s1,λH2 p2 tb2 k2 e2=> ?_⟩⟩;have q:=q.step tb2 ((Kp.of s1).trans k2);have G:=(G.mono s1).tab (Tab.same tb s1) k2;refine⟨a,p2,_,_,u,rfl,G.Xh,e2,rp,G.ls,hu,λH3 s13=> ?_⟩;refine⟨a,_,rfl,(G.mono s13).Xh,G.ls.Hf,λp4 n4=> ?_⟩;have s14:=s13.trans (AR.upd (o:=HO.lst (nL (List.range (GQ x.t).length))) n4);refine⟨a,p4,_,_,u,rfl,(G.mono s14).Xh,AG,List.Perm.refl _,G.ls,hu,λH5 s5=> ?_⟩;have s15:=s14.trans s5;obtain⟨_,_,_,_,_,at5⟩:=(G.mono s15).at_;refine⟨⟨_,_,at5,rfl⟩,QW (G.mono s15) λH6 s6=>⟨_,rfl,_,rfl,_,rfl,_,rfl,_,rfl,_,rfl,by rw[sizeLine_eq];decide,λp n=> ?_⟩⟩;refine q _ p ((s15.trans s6).free n) ((s15.trans s6).trans (AR.upd n)) ?_;rw[AG];unfold wg;rw[if_neg hfew];unfold iL ValaycNeutral.encode;simp only[map_cons,map_nil]
inductive cy(t:Bz)(vs:List V)(H:Hp)(Q:VK)(E:XK):Prop | mk:∀(k:Addr) (AS:List Rec) (r w:Int),vs=[.ref k,.int r,.int w]->NY t H k AS->ON H Q (YQ AS (.orders r w))->cy t vs H Q E
theorem Wt:FT P w AJ T 92 t.JZ t.Ja ["self","r","w"] (cy t):=by
 refine T.Pb.Cr OG ?_;rintro _ A _ s H _ Q E hr ⟨k,AS,r,w,rfl,⟨dx,l,as,h⟩,q⟩;have nd:=OG.nd;refine⟨_,(AD (ps_sl 3 nd (Ac (pv 0) T.BB T.DU (DD T) hr.lt (DY T) .nil AK (AB (pv 1) (AB (pv 2) AE))))
   (AD (Ay (AU GR (pv 3) Aj (AY _)) (AH (AO (BU (AB (pv 3) AE)))) AX)
   (AD (ps_sl 4 nd (BY Av (AQ (pv 0) rfl) (pv 1) (λ_ _=>rfl)))
   (Lu (AD (ps_sl 5 nd (AV (LG T) hr.lt rfl T.NI T.Fc.kp (NQ T) .nil AK (AB (pv 4) (AB (pv 2) AE))))
   (AD (ps_sl 6 nd (AV (DN T) hr.lt rfl T.Du T.CQ.kp (Dv T) .nil AK (AB (pv 4) (AB (pv 5) (AB (pv 2) AE)))))
   (AH (AO (An Kk (BU (AB (AV (Z8 T) hr.lt rfl T.aW T.NL.kp (ak T) .nil AK (AB (Ad (pv 4) T.Ao T.CW (CJ T) hr.lt (CZ T) .nil AK) AE)) (AB (AV (Ws T) hr.lt rfl T.Xq T.Jb.kp (Xx T) .nil AK (AB (pv 4) (AB (pv 6) (AB (pv 2) AE)))) AE))) (pv 5)))))))))),?_⟩
 walk_at "rd";rw[j9] at q;refine⟨⟨_,_,h.at_,rfl⟩,k,AS,r,w,rfl,⟨dx,l,as,h⟩,_,rfl,Az (λz=> ?_) λz=> ?_⟩
 ·rw[Wf z] at q;exact JO q
 ·obtain⟨i,x,u,rfl,hx,rfl,hu,hfew,hf⟩:=Y9 z;rw[hf] at q;obtain⟨a,ia,G⟩:=h.get hx;refine⟨_,⟨_,_,_,h.at_,T.BB,T.A3,rfl⟩,l,rfl,_,⟨_,A4.of h.lst,ia⟩,?_⟩;refine fO ?_;walk_at "rd";refine⟨a,_,u,rfl,G,hu,λH1 p1 s1 e1=> ?_⟩;refine⟨a,p1,_,_,u,rfl,(G.mono s1).Xh,e1,Mt.Ku,G.ls,hu,λH2 s2=> ?_⟩;have s12:=s1.trans s2;obtain⟨_,_,_,_,_,at2⟩:=(G.mono s12).at_;have Hf:(GQ x.t).length<=24:=G.ls.Hf;refine⟨⟨_,_,at2,rfl⟩,U4 (G.mono s12) ⟨_,rfl,by lia,a,_,u,_,rfl,(G.mono s12).Xh,G.ls,hu,λH3 s3=>⟨by rw[sizeLine_eq];decide,λp n=> ?_⟩⟩⟩;have s4:=AR.upd (o:=HO.lst [V.int (Mt.fact (GQ x.t).length:Nat),V.int (Mt.cnt u (GQ x.t) (bitsOf u (GQ x.t) (leastOf u (GQ x.t)).2) [] (List.range (GQ x.t).length):Nat)]) n;have ll:(leastOf u (GQ x.t)).2.length=(GQ x.t).length:=by rw[Mt.Ku.length_eq,length_range]
  refine⟨p1,rfl,_,AG,_,s4 _ _ (s3 _ _ (s2 _ _ e1)),?_,λp5 n5=> ?_⟩
  ·rw[length_map,sizeLine_eq];have ll:=ll;show 2+(leastOf u (GQ x.t)).2.length<=_;rw[ll];lia
  ·refine q _ p5 (((s12.trans s3).trans s4).free n5) (((s12.trans s3).trans s4).trans (AR.upd n5)) ?_;rw[AG,Mt.aS,Mt.QU.2.2];have eo:(Valayc.orders (GQ x.t).length).length=Mt.fact (GQ x.t).length:=Mt.pK _ _ length_range nodup_range;rw[eo];unfold iL ValaycNeutral.encode Valayc.nats;simp only[map_cons,map_map];rfl
inductive pZ(t:Bz)(vs:List V)(H:Hp)(Q:VK)(E:XK):Prop | mk:∀(k ol:Addr) (AS:List Rec) (r w:Int) (zs:List Int),vs=[.ref k,.int r,.int w,.ref ol]->NY t H k AS->H ol=some (.lst (iL zs))->ON H Q (YQ AS (.fit r w zs))->pZ t vs H Q E
theorem bO:FT P w AJ T 92 t.O2 t.O3 ["self","r","w","order"] (pZ t):=by
 refine T.VQ.Cr Ti ?_;rintro _ A _ s H _ Q E hr ⟨k,ol,AS,r,w,zs,rfl,⟨dx,l,as,h⟩,h1,q⟩;have nd:=Ti.nd;refine⟨_,(AD (ps_sl 4 nd (Ac (pv 0) T.BB T.DE (Cy T) hr.lt (DH T) .nil AK (AB (pv 1) (AB (pv 2) AE))))
   (AD (Ay (AU GR (pv 4) Aj (AY _)) (AH (AO (BU (AB (pv 4) AE)))) AX)
   (AD (ps_sl 5 nd (BY Av (AQ (pv 0) rfl) (pv 1) (λ_ _=>rfl)))
   (Lu (AD (Ay (AU (vO (Dc.units hr)) (AZ ja rfl T.gN boot_sorted (AB (pv 3) AE)) (AV (PK T) hr.lt rfl T.Q4 T.Io.kp (RE T) .nil AK (AB (pv 5) AE)) (AY _)) (AH (AO (BU (AB (A9 T.Xw) AE)))) AX)
   (AD (ps_sl 6 nd (AV (Fu T) hr.lt rfl T.Gy T.DL.kp (Gz T) .nil AK (AB (pv 5) (AB (pv 3) (AB (pv 2) AE)))))
   (AH (AO (An Kk (BU (AB (AV (Hw T) hr.lt rfl T.Ke T.GS.kp (Kf T) .nil AK (AB (pv 5) (AB (pv 6) AE))) AE)) (AV (LH T) hr.lt rfl T.NJ T.Fe.kp (NR T) .nil AK (AB (pv 5) (AB (pv 6) AE)))))))))))),?_⟩
 walk_at "rd";rw[tG] at q;refine⟨⟨_,_,h.at_,rfl⟩,k,AS,r,w,rfl,⟨dx,l,as,h⟩,_,rfl,Az (λz=> ?_) λz=> ?_⟩
 ·rw[Of z] at q;exact JO q
 ·obtain⟨_,i,x,u,rfl,hx,rfl,hu,hf⟩:=Kh z;rw[hf] at q;obtain⟨a,ia,G⟩:=h.get hx;refine⟨_,⟨_,_,_,h.at_,T.BB,T.A3,rfl⟩,l,rfl,_,⟨_,A4.of h.lst,ia⟩,?_⟩;refine fO ?_;walk_at "rd";refine⟨zs,A4.of h1,λns' p1 pm so n1=> ?_⟩;have s1:=AR.upd (o:=HO.lst (iL ns')) n1;refine⟨a,_,rfl,(G.mono s1).Xh,G.ls.Hf,λp2 n2=> ?_⟩;have s2:=AR.upd (o:=HO.lst (nL (List.range (GQ x.t).length))) n2;have e2:nL (List.range (GQ x.t).length)=iL (Mt.AA (List.range (GQ x.t).length)):=by unfold nL iL Mt.AA;rw[map_map];rfl
  refine⟨_,.lst (A4.of (s2 _ _ AG)) eF,_,.lst (A4.of (by rw[AG,e2])) eF,ke_shaped_ints _,ke_shaped_ints _,?_⟩;have ee:(PyData.list (ns'.map PyData.int)).eqv (PyData.list ((Mt.AA (List.range (GQ x.t).length)).map PyData.int))=decide (ns'=Mt.AA (List.range (GQ x.t).length)):=by show PyData.eqvAll _ _=_;exact PySem.W.ked_eqvAll _ _
  rw[ee];refine Az (λz2=> ?_) λz2=> ?_
  ·have z2:ns'≠Mt.AA (List.range (GQ x.t).length):=of_decide_eq_false z2;rw[Mt.sS pm so z2] at q;exact JO (q.mono (s1.trans s2))
  ·have z2:ns'=Mt.AA (List.range (GQ x.t).length):=by simpa using z2
   obtain⟨t1,t2,t3⟩:=Mt.qU pm z2;rw[t1] at q;have s12:=s1.trans s2;have h1':(upd (upd H p1 (HO.lst (iL ns'))) p2 (HO.lst (nL (List.range (GQ x.t).length)))) ol=some (.lst (nL (zs.map λz=>z.toNat))):=by
    rw[s12 _ _ h1];have t4:iL zs=nL (zs.map λz=>z.toNat):=by show zs.map V.int=_;rw[t3];unfold nL Mt.AA;simp only[map_map];rfl
    rw[t4]
   refine⟨a,ol,_,_,u,rfl,(G.mono s12).Xh,h1',t2,G.ls,hu,λH3 p3 s3 e3=> ?_⟩;exact mE ((G.mono s12).mono s3).Xh e3 t2 G.ls hu (q.mono (s12.trans s3))
inductive gk(t:Bz)(vs:List V)(H:Hp)(Q:VK)(E:XK):Prop | mk:∀(k ol:Addr) (AS:List Rec) (r w n:Int) (zs:List Int),vs=[.ref k,.int r,.int w,.int n,.ref ol]->NY t H k AS->H ol=some (.lst (iL zs))->ON H Q (YQ AS (.judge r w n zs))->gk t vs H Q E
theorem X3:FT P w AJ T 92 t.K6 t.K7 ["self","r","w","n","starts"] (gk t):=by
 refine T.RS.Cr Pj ?_;rintro _ A _ s H _ Q E hr ⟨k,ol,AS,r,w,n,zs,rfl,⟨dx,l,as,h⟩,h1,q⟩;have nd:=Pj.nd;refine⟨_,(AD (ps_sl 5 nd (Ac (pv 0) T.BB T.DE (Cy T) hr.lt (DH T) .nil AK (AB (pv 1) (AB (pv 2) AE))))
   (AD (Ay (AU GR (pv 5) Aj (AY _)) (AH (AO (BU (AB (pv 5) AE)))) AX)
   (AD (ps_sl 6 nd (BY Av (AQ (pv 0) rfl) (pv 1) (λ_ _=>rfl)))
   (Lu (AD (Ay (Mc (Mb (AV (fH T) hr.lt rfl T.iA T.RA.kp (iG T) .nil AK (AB (pv 6) (AB (pv 3) (AB (pv 4) AE)))))) (AH (AO (BU (AB (A9 T.Wk) AE)))) AX)
   (AD (Ay (PW.pt (Wv (Mc (Mb (AV (iN T) hr.lt rfl T.ji T.UG.kp (js T) .nil AK (AB (pv 6) (AB (pv 3) (AB (pv 4) AE)))))) (QF (Mb (AV (Z7 T) hr.lt rfl T.aV T.NK.kp (aj T) .nil AK (AB (pv 6) (AB (pv 4) (AB (pv 2) AE)))))))) (AH (AO (BU (AB Aj AE)))) AX)
   (Lu (AD (ps_sl 7 nd (AV (Hw T) hr.lt rfl T.Ke T.GS.kp (Kf T) .nil AK (AB (pv 6) (AB (pv 4) AE))))
   (AH (AO (BU (AB Aj (AB (pv 7) (AB (AV (aB T) hr.lt rfl T.aY T.NN.kp (aq T) .nil AK (AB (pv 6) (AB (pv 7) (AB (pv 2) AE)))) (AB (An D5 (pv 7) (Ad (pv 6) T.Ao T.DK (Dy T) hr.lt (DM T) .nil AK)) AE))))))))))))))),?_⟩
 walk_at "rd";rw[nh] at q;refine⟨⟨_,_,h.at_,rfl⟩,k,AS,r,w,rfl,⟨dx,l,as,h⟩,_,rfl,Az (λz=> ?_) λz=> ?_⟩
 ·rw[Of z] at q;exact JO q
 ·obtain⟨_,i,x,u,rfl,hx,rfl,hu,hf⟩:=Kh z;rw[hf] at q;obtain⟨a,ia,G⟩:=h.get hx;refine⟨_,⟨_,_,_,h.at_,T.BB,T.A3,rfl⟩,l,rfl,_,⟨_,A4.of h.lst,ia⟩,?_⟩;refine fO ?_;walk_at "rd";unfold judgeCall at q;refine⟨a,ol,_,n,zs,rfl,G,h1,λH1 s1=>⟨_,rfl,Az (λz2=> ?_) λz2=> ?_⟩⟩
  ·have z2:Xn (GQ x.t) n zs:=by simpa using z2
   unfold Xn at z2;rw[if_pos z2] at q;exact JO (q.mono s1)
  ·have z2:¬Xn (GQ x.t) n zs:=by simpa using z2
   have z3:=z2;unfold Xn at z2;rw[if_neg z2] at q;have hS:(SIZE:Int)=128:=rfl;have hn0:0<=n:=Int.not_lt.mp λy=>z2 (.inl y);have hl:zs.length=(GQ x.t).length:=Decidable.of_not_not λy=>z2 (.inr (.inr (.inl y)));have hz:∀z∈zs,0<=z:=λz hz=>by refine Int.not_lt.mp λy=>z2 (.inr (.inr (.inr (any_eq_true.mpr ⟨z,hz,?_⟩))));unfold index;rw[if_neg (λy2=>by lia)];rfl
   have ez:iL zs=nL (zs.map λz=>z.toNat):=by unfold iL nL;rw[map_map];refine map_congr_left λz m=> ?_;show V.int z=V.int ((z.toNat:Nat):Int);rw[Int.toNat_of_nonneg (hz z m)]
   have en:((n.toNat:Nat):Int)=n:=Int.toNat_of_nonneg hn0;rw[ez] at h1;generalize hss:(zs.map λz=>z.toNat)=ss at h1 q;have hl:ss.length=(GQ x.t).length:=by rw[<-hss,length_map];exact hl
   have G1:=G.mono s1;have Hf:=G.ls.Hf;unfold Valayc.judgeAnswer at q;refine⟨a,ol,_,ss,n.toNat,by rw[en],G1.Xh,s1 _ _ h1,hl,G.ls,λH2 s2=>⟨_,rfl,Az (λz4=> ?_) λz4=> ?_⟩⟩
   ·rw[if_pos (by unfold rightFor;rw[z4,Bool.false_and])] at q;exact JO (q.mono (s1.trans s2))
   have z4:Valayb.right (GQ x.t) ⟨n.toNat,ss⟩=true:=by simpa using z4
   have s12:=s1.trans s2;refine⟨a,ol,_,ss,u,rfl,(G.mono s12).Xh,s12 _ _ h1,hl,Hf,D4.lt hu,λH3 s3=>⟨_,rfl,Az (λz5=> ?_) λz5=> ?_⟩⟩
   ·rw[if_pos (by unfold rightFor;rw[Mt.cS,z5,Bool.not_true,Bool.and_false])] at q;exact JO (q.mono (s12.trans s3))
   have z5:((ss.zip (GQ x.t)).map λz=>crosses u z.1 (wd z.2)).any id=false:=by simpa using z5
   rw[if_neg (by unfold rightFor;rw[Mt.cS,z5,z4];decide)] at q;have s13:=s12.trans s3;refine fO ?_;walk_at "rd";refine⟨a,ol,_,ss,rfl,(G.mono s13).Xh,s13 _ _ h1,hl,G.ls.pos,Hf,λH4 m s4 hm hle=> ?_⟩;rw[Mt.nF (size:=n.toNat) hl G.ls.pos hm hle];have s14:=s13.trans s4;refine⟨a,_,u,_,rfl,G.mono s14,hu,λH5 s5=> ?_⟩;have s15:=s14.trans s5;obtain⟨_,_,_,_,_,at5⟩:=(G.mono s15).at_;refine⟨⟨_,_,at5,rfl⟩,QW (G.mono s15) λH6 s6=>⟨_,rfl,_,rfl,by rw[sizeLine_eq];decide,λp n=> ?_⟩⟩;refine q _ p ((s15.trans s6).free n) ((s15.trans s6).trans (AR.upd n)) ?_;rw[AG];unfold iL ValaycNeutral.encode;simp only[map_cons,map_nil]
def oH(u:Nat)(r:Rec):List Int:=[((Valayc.bound r.t:Nat):Int),((bitsOf u (GQ r.t) (ruleOrder (GQ r.t)):Nat):Int),wg u r.t]
theorem ni{w:Int}:YQ AS (.table w)=if AS.length=0 then [-1] else if ¬nz w then [-3] else((AS.length:Nat):Int)::AS.flatMap (oH w.toNat):=by
 unfold YQ Bw;rcases Decidable.em (AS.length=0) with z1 | z1
 ·rw[if_pos z1,if_pos z1];rfl
 rw[if_neg z1,if_neg z1];show ValaycNeutral.encode (withWord w _)=_;unfold withWord;rcases Decidable.em (nz w) with z3 | z3
 ·rw[if_neg (Classical.not_not.mpr z3),if_pos (show (0<=w/\Valayc.WORDS.contains w.toNat=true) from z3)];rfl
 ·rw[if_pos z3,if_neg (show ¬(0<=w/\Valayc.WORDS.contains w.toNat=true) from z3)];rfl
theorem in_words{w:Int}:mI (V.int w) [V.int 0,V.int 8,V.int 16,V.int 32,V.int 64]=decide (nz w):=by
 rw[Bool.eq_iff_iff,decide_eq_true_eq,YK];unfold mI;simp only[any_cons,any_nil,Bool.or_false,Bool.or_eq_true,mH,beq_iff_eq];unfold Mt.D4;constructor
 ·intro z;exact⟨w.toNat,by lia,by lia⟩
 ·rintro⟨u,rfl,z⟩;lia
inductive gm(t:Bz)(vs:List V)(H:Hp)(Q:VK)(E:XK):Prop | mk:∀(k:Addr) (AS:List Rec) (w:Int),vs=[.ref k,.int w]->NY t H k AS->Pz t H->QN t H Q (YQ AS (.table w))->gm t vs H Q E
theorem X4(BM:OM mg AJ):FT P w AJ T 92 t.K8 t.K9 ["self","w"] (gm t):=by
 refine T.RT.Cr Pk ?_;rintro _ A _ s H _ Q E hr ⟨k,AS,w,rfl,⟨dx,l,as,h⟩,tb,q⟩;have nd:=Pk.nd;refine⟨_,(AD (Ay (AU B3 (AZ Ak rfl T.B7 PySem.boot_len (AB (AQ (pv 0) rfl) AE)) Aj (AY _)) (AH (AO (BU (AB (A9 T.VU) AE)))) AX)
   (AD (Ay (AU Oh (pv 1) (fW T.lT) (by with_unfolding_all rfl)) (AH (AO (BU (AB (A9 T.RU) AE)))) AX)
   (Lu (AD (ps_sl 2 nd (BU (AB (AZ Ak rfl T.B7 PySem.boot_len (AB (AQ (pv 0) rfl) AE)) AE)))
   (AD (JL PassesOwn.never rfl (Cb (AQ (pv 0) rfl)) (A8 (i:=3) nd rfl (Or.inl rfl)) (AH (Au (Ua PySem.F.plainAttrs_list PySem.F.slot_list_extend PySem.F.type_list_extend bu (pv 2) (AB (BU (AB (Ad (pv 3) T.Ao T.DK (Dy T) hr.lt (DM T) .nil AK) (AB (AV (DN T) hr.lt rfl T.Du T.CQ.kp (Dv T) .nil AK (AB (pv 3) (AB (AV (NT T BM) hr.lt rfl T.O4 T.Gr.kp (PB T) .nil AK (AB (pv 3) AE)) (AB (pv 1) AE)))) (AB (AV (NU T) hr.lt rfl T.O5 T.Gs.kp (PD T) .nil AK (AB (pv 3) (AB (pv 1) AE))) AE)))) AE)))))
   (AH (AO (pv 2)))))))),?_⟩
 walk_at "rd";rw[ni] at q;have hl:(as.map V.ref).length=AS.length:=by rw[length_map,h.tX.1]
 have Hf:=h.Hf;refine⟨_,⟨_,_,_,h.at_,T.BB,T.A3,rfl⟩,l,rfl,_,.inl (A4.of h.lst),rfl,Az (λz1=> ?_) λz1=> ?_⟩
 ·rw[if_pos (by lia)] at q;exact JO (q.gives tb)
 rw[if_neg (by lia)] at q;refine⟨_,.inr (T.lU.sq H),rfl,rfl,Az (λz4=> ?_) λz4=> ?_⟩
 ·rw[in_words] at z4;rw[if_pos (of_decide_eq_false z4)] at q;exact JO (q.gives tb)
 rw[in_words] at z4;have z4:nz w:=by simpa using z4
 rw[if_neg (Classical.not_not.mpr z4)] at q;obtain⟨u,rfl,hu⟩:=YK.mp z4;rw[Int.toNat_natCast] at q;refine fO ?_;walk_at "rd";refine⟨_,⟨_,_,_,h.at_,T.BB,T.A3,rfl⟩,l,rfl,_,.inl (A4.of h.lst),by rw[sizeLine_eq];decide,λp n=> ?_⟩;rw[hl];have s0:=AR.upd (o:=HO.lst [V.int (AS.length:Nat)]) n;have h0:=h.mono s0;have sm:∀{H':Hp} {o:HO},Kp t.NW H H'->Kp t.NW H (upd H' p o):=λs c u nb e=>by rw[AM (λz=>by rw[z,n] at e;cases e)];exact s _ _ nb e
 have lP:l≠t.NW:=λz=>by obtain⟨ps,e,_⟩:=tb;have e3:=h.lst;rw[z,e] at e3;cases e3
 refine⟨_,⟨_,_,_,h0.at_,T.BB,T.A3,rfl⟩,l,rfl,⟨_,A4.of h0.lst⟩,?_⟩;refine Kr (xs:=as.map V.ref) (λi σ H'=>(Kp t.NW H H'/\Pz t H')/\H' p=some (.lst (iL (((AS.length:Nat):Int)::(AS.take i).flatMap (oH u))))/\∃v,σ=[some (.ref k),some (.int u),some (.ref p),v])
  ⟨⟨Kp.of s0,Tab.same tb s0⟩,AG,none,rfl⟩ (λi σ H' _ pv=>A4.of (pv.1.1 _ _ lP h.lst)) (λi v σ H' hv pv=> ?_) λσ H' pv=> ?_
 ·obtain⟨⟨s1,tb1⟩,e1,v0,rfl⟩:=pv;obtain⟨a,ha,rfl⟩:=CV hv;have hi:i<AS.length:=by rw[<-h.tX.1];exact(List.getElem?_eq_some_iff.mp ha).1
  obtain⟨x,hx⟩:∃x,AS[i]?=some x:=⟨_,getElem?_eq_getElem hi⟩;have G:=(h.tX.2 i a x ha hx).tab tb s1;walk_at "rd";obtain⟨_,_,_,_,_,at1⟩:=G.at_;have rp:=(Mt.YC (ls:=GQ x.t)).1;refine⟨.inl ⟨rfl,_,A4.of e1⟩,⟨_,_,at1,rfl⟩,QW G λH2 s2=>⟨a,_,rfl,(G.mono s2).Xh,G.ls,Tab.same tb1 s2,λH3 p3 tb3 k3 e3=>⟨a,p3,_,_,u,rfl,((G.mono s2).tab (Tab.same tb1 s2) k3).Xh,e3,rp,G.ls,hu,λH4 s4=>⟨a,_,u,rfl,((G.mono s2).tab (Tab.same tb1 s2) k3).mono s4,hu,λH5 s5=>⟨by rw[sizeLine_eq];decide,λp6 n6=> ?_⟩⟩⟩⟩⟩;have s6:=AR.upd (o:=HO.lst (iL (oH u x))) n6;have sB:=(s4.trans s5).trans s6;have sA:Kp t.NW H' _:=((Kp.of s2).trans k3).trans (Kp.of sB);have tb6:=Tab.same tb3 sB;have pP:p≠t.NW:=λz=>by obtain⟨ps,e,_⟩:=tb1;rw[<-z,e1] at e;cases e
  have hlen:∀rs:List Rec,(rs.flatMap (oH u)).length=rs.length * 3:=λrs=>by
   induction rs with
   |nil=>rfl
   |cons y ys ih=>rw[flatMap_cons,length_append,ih,length_cons];show 3+_=_;lia
  refine⟨_,sA _ _ pP e1,_,AG,?_,sm (s1.trans sA),tH tb6 (sA _ _ pP e1),?_,_,rfl⟩
  ·rw[length_map,length_cons,hlen,length_take,sizeLine_eq];show _+3<=_;lia
  ·rw[AG,take_add_one,hx,List.flatMap_append,map_append];unfold iL;rw[map_cons];simp[oH]
 ·obtain⟨⟨s1,tb1⟩,e1,v0,rfl⟩:=pv;rw[hl,take_length] at e1;exact q H' p n tb1 s1 e1
end
end Pr
namespace Pr
open PySem PySem.Spec PyProof.Rows L2
open ValayBase (PTok Toks PName Bytes word)
open Valaya (Ty Rec Leaf)
theorem rA{l:Bytes}{k:ValayBase.Tok}(h:token l=some (k,n)):k≠ .last/\(∀m,k= .num m->m<=1000000000)/\∀b,k= .name b->b.length<=16:=by
 unfold token at h;split at h
 ·cases h
 ·dsimp only at h;split at h
  ·split at h
   ·cases h
   ·rename_i hn;cases h;refine⟨(by intro z;cases z),(by intro m z;cases z),λb z=> ?_⟩;cases z;exact le_of_not_lt hn
  ·split at h
   ·obtain⟨m,e,h⟩:=map_eq_some_iff.mp h;cases h;refine⟨(by intro z;cases z),λm' z=> ?_,(by intro b z;cases z)⟩;cases z;unfold numberOf at e;split at e
    ·cases e
    ·rename_i hn;cases e;refine le_of_not_lt λz=>hn (.inr (.inr (.inr z)))
   ·split at h
    ·cases h;exact⟨(by intro z;cases z),(by intro m z;cases z),(by intro b z;cases z)⟩
    ·cases h
theorem V8:∀(n at_:Nat) (l:Bytes) (ts:Toks),ValayBase.lex n at_ l= .ok ts->0<ts.length/\ts.length<=n+1/\(∀(i:Nat) (x:PTok),ts[i]?=some x->x.tok≠ .last->i+1<ts.length)/\(∀x∈ts,∀m,x.tok= .num m->m<=1000000000)/\Mt.Gh ts
 | 0,at_,l,ts,h=>by
  cases h;refine⟨by simp,by simp,λi x hx hn=> ?_,λx hx m hm=> ?_,λx hx b hb=> ?_⟩
  ·cases i with
   |zero=>cases hx;exact absurd rfl hn
   |succ i=>cases hx
  ·cases mem_singleton.mp hx;cases hm
  ·cases mem_singleton.mp hx;cases hb
 |n+1,at_,[],ts,h=>by
  cases h;refine⟨by simp,by simp,λi x hx hn=> ?_,λx hx m hm=> ?_,λx hx b hb=> ?_⟩
  ·cases i with
   |zero=>cases hx;exact absurd rfl hn
   |succ i=>cases hx
  ·cases mem_singleton.mp hx;cases hm
  ·cases mem_singleton.mp hx;cases hb
 |n+1,at_,b::r,ts,h=>by
  rw[lex_cons] at h;split at h
  ·obtain⟨h1,h2,h3⟩:=V8 n _ _ _ h;exact⟨h1,by lia,h3⟩
  ·split at h
   ·obtain⟨h1,h2,h3⟩:=V8 n _ _ _ h;exact⟨h1,by lia,h3⟩
   ·split at h
    ·cases h
    ·rename_i x hx;obtain⟨ts',e,h⟩:=Mf h;subst h;obtain⟨h1,h2,h3,h4,h5⟩:=V8 n _ _ _ e;obtain⟨t1,t2,t3⟩:=rA (k:=x.1) (n:=x.2) hx;refine⟨by simp,by simp;lia,λi y hy hn=> ?_,λy hy m hm=> ?_,λy hy c hc=> ?_⟩
     ·cases i with
      |zero=>simp;lia
      |succ i=>have:=h3 i y (by simpa using hy) hn;simp;lia
     ·rcases mem_cons.mp hy with rfl | hy
      ·exact t2 m hm
      ·exact h4 y hy m hm
     ·rcases mem_cons.mp hy with rfl | hy
      ·exact t3 c hc
      ·exact h5 y hy c hc
theorem nj{at_:Nat}{l:Bytes}(h:ValayBase.lex n at_ l= .ok ts):xj ts:=
 ⟨(V8 n at_ l ts h).2.2.1,λi x m hx hm=>by have:=(V8 n at_ l ts h).2.2.2.1 x (mem_of_getElem? hx) m hm;lia⟩
section
theorem Xi.of{r:Rec}{x:Str}(h:Mt.YS 42 r)(hr:Rep t H r.t (.rc a x)):Xi t H a r.t:=by
 obtain⟨fs,e⟩:=h.rc;refine⟨⟨x,fs,e,by rw[e] at hr;exact hr,by rw[<-e];exact h.ok,?_,by rw[<-e];exact h.Hf⟩,h.ls⟩;have:=h.dp;rw[e] at this;have:Mt.dep fs+1<=42:=this
 lia
theorem tI{x:Str}{fs:Ty}{nm:Bytes}(h1:Rep t H (.rec_ fs) (.rc a x))(h2:Mt.wf (.rec_ fs) 6)(h4:countLeaves (.rec_ fs)<=24)(hx:nm.length<=16):(mT nm fs).length<=16000000:=by
 obtain⟨dx,lf,ll,lr,as,ls,rs,g1,g2,g3,g4,g5,g6,hb⟩:=h1;have h4':=Wc h2.2 h4;obtain⟨zs,rfl,hl,hz⟩:=hb.fields;rw[Mt.Cu] at h4';have hs:∀l:List (PName×Nat×Ty),(∀z∈l,(Py z).length<=131100)->((l.map Py).flatten).length<=l.length * 131100:=λl=>by
  induction l with
  |nil=>intro _;exact zero_le _
  |cons z l ih=>
   intro h;have h5:=ih λy m=>h y (mem_cons_of_mem _ m);have h2:=h z mem_cons_self;simp only[map_cons,length_cons,flatten_cons,length_append] at h5 ⊢
   lia
 have t2:=hs zs λz m=>by obtain⟨i,hi⟩:=getElem?_of_mem m;obtain⟨b,hb⟩:∃b,as[i]?=some b:=⟨_,getElem?_eq_getElem (by rw[hl];exact(List.getElem?_eq_some_iff.mp hi).1)⟩;obtain⟨_,c,_,hc⟩:=hz i b z hb hi;obtain⟨a1,a2,a3,a4⟩:=JN h2.2 z m;exact mC (n:=Mt.dep z.2.2) ⟨a2,a3,a1,Nat.le_refl _,hc.oF⟩
 have t3:zs.length * 131100<=24 * 131100:=mul_le_mul_right _ h4';unfold mT Valaya.line;rw[EV];simp only[length_append,length_cons,length_nil];have l1:(word "record ").length=7:=rfl;have l2:(word " {").length=2:=rfl;have l3:(word "}").length=1:=rfl
 lia
inductive Tu(K:Frag)(t:Bz)(vs:List V)(H:Hp)(Q:VK)(E:XK):Prop | mk:∀(a:Addr) (bs:Bytes),vs=[.ref a]->A4 K H a (Gk bs)->bs.length<=8192->(match Valaya.read bs with
 | .error f=>Gi t.BC E (AR H) f.code f.place
 | .ok rs=>∀H' (l:Addr) (as:List Addr),AR H H'->H' l=some (.lst (as.map V.ref))->Kq t H' as rs->rs.length<=6->1<=rs.length->Q (.ref l) H')->Tu K t vs H Q E
theorem bP:FT P w AJ T 95 t.Oo t.Oq ["text"] (Tu K t):=by
 refine T.O7.Xg Tg ?_;rintro _ A _ s H _ Q E hr ⟨a,bs,rfl,h1,h2,q⟩;have nd:=Tg.nd;refine⟨_,(AD (Ay (AU UZ (AZ Ak rfl T.B7 PySem.boot_len (AB (pv 0) AE)) (A9 T.O9) (AY _)) (AH (Gn T.FK T.FN T.KC (CB T) hr.lt (Cc T) rfl T.IX (AB (A9 T.Xs) (AB (A9 T.O9) AE)))) AX)
   (AD (ps_sl 1 nd (Ad (CL T.qg (Z6 T) hr.lt rfl T.qZ (ax T) .nil AK (AB (AV (fE T) hr.lt rfl T.hZ T.Q8.kp (iE T) .nil (Ag λ_ _ z=>z) (AB (pv 0) AE)) AE)) T.AL T.P1 (PL T) hr.lt (P2 T) .nil (Ag λ_ _ z=>z)))
   (AD (Ay (AU UZ (AZ (dI rfl) rfl T.kT boot_sum (AB (Jk (own:=[("record",2)]) rfl nd (Cb (pv 1)) (B4 rfl) (λ_ _ _ _ _=>(A8 (i:=2) nd rfl (Or.inl rfl) (.inr rfl))) (λ_ _ _ _ _=>Ct) (λ_ _ _ _ _=>(AZ U5 rfl T.B7 PySem.boot_len (AB (Ad (pv 2) T.Ao T.aZ (Z3 T) hr.lt (aw T) .nil AK) AE)))) AE)) (A9 T.O9) (AY _)) (AH (Gn T.FK T.FN T.KC (CB T) hr.lt (Cc T) rfl T.IX (AB (A9 T.Xt) (AB Aj AE)))) AX)
   (AH (AO (pv 1)))))),?_⟩
 walk_at "rd";have vl:(Gk bs).length=bs.length:=by simp[Gk,Ii]
 refine⟨_,.inl h1,Az (λz=> ?_) λz=> ?_⟩
 ·have z:TEXT<bs.length:=by rw[vl] at z;exact Int.ofNat_lt.mp z
  have e:Valaya.read bs= .error ⟨1,4096⟩:=by unfold Valaya.read tokens;rw[if_pos z];rfl
  rw[e] at q;exact λdx H1 _ e1 s1=>q dx H1 s1 e1
 have z:¬TEXT<bs.length:=λy=>z (by rw[vl];exact Int.ofNat_lt.mpr y);have er:Valaya.read bs=(LX bs 0).bind λl=>(takeRecs (l.length+1) [] l).bind λrs=>if TEXT<(rs.flatMap shownRec).length then .error ⟨16,0⟩ else .ok rs:=by unfold Valaya.read tokens;rw[if_neg z];rfl
 rw[er] at q;refine⟨a,bs,rfl,h1,h2,?_⟩;cases el:LX bs 0 with
 |error f=>rw[el] at q;exact q
 |ok ts=>
  rw[el] at q;intro l as H1 s1 tk;have tok:=nj (n:=bs.length+1) (at_:=0) (l:=bs.drop 0) el;obtain⟨tpos,tlen,_,_,tnm⟩:=V8 _ _ _ _ (show ValayBase.lex (bs.length+1) 0 (bs.drop 0)= .ok ts from el);intro p dx np ndx pdx;refine⟨p,dx,l,rfl,AG,λH2 d nd2 k2 e2 d2=>⟨rfl,?_⟩⟩;have s2:AR H1 H2:=AR.made np ndx λb o e n=>k2 b o n e;have dp:d≠p:=λz=>by rw[z,e2] at d2;cases d2
  have tk2:dC t H2 l ts as:=⟨s2 _ _ tk.lst,tk.len,λi a x ha hx=>(tk.at_ i a x ha hx).same s2⟩;obtain⟨x0,hx0⟩:∃x,ts[0]?=some x:=⟨_,getElem?_eq_getElem tpos⟩;have s0:AR H H2:=s1.trans s2;have npH:H p=none:=s1.free np;have ndH:H d=none:=by have h3:H1 d=none:=(AR.new np ndx).free nd2;exact s1.free h3
  have sm:∀{H3:Hp},ny p d H2 H3->AR H H3:=λk b o e=>k b o (λz=>by rw[z,npH] at e;cases e) (λz=>by rw[z,ndH] at e;cases e) (s0 _ _ e);refine⟨⟨_,_,e2,rfl⟩,p,dx,l,d,ts,as,x0,rfl,⟨⟨e2,tk2,tpos⟩,hx0,tok⟩,d2,tnm,by lia,?_⟩;have q:(match (takeRecs (ts.length+1) [] ts).bind λrs=>if TEXT<(rs.flatMap shownRec).length then .error ⟨16,0⟩ else .ok rs with
   | .error f=>Gi t.BC E (AR H) f.code f.place
   | .ok rs=>∀H' (l:Addr) (as:List Addr),AR H H'->H' l=some (.lst (as.map V.ref))->Kq t H' as rs->rs.length<=6->1<=rs.length->Q (.ref l) H'):=q
  cases et:takeRecs (ts.length+1) [] ts with
  |error f=>rw[et] at q;exact λdx H3 k e=>q dx H3 (sm k) e
  |ok rs=>
   rw[et] at q;obtain⟨rok,rs6,rs1⟩:=Mt.lQ _ _ _ _ (λr m=>(by cases m)) (zero_le _) tnm et;intro H3 lr bs' k3 e3 bl hrep;have s3:=sm k3;have q:(match (if TEXT<(rs.flatMap shownRec).length then(.error ⟨16,0⟩:Except Fault (List Rec)) else .ok rs) with
    | .error f=>Gi t.BC E (AR H) f.code f.place
    | .ok rs=>∀H' (l:Addr) (as:List Addr),AR H H'->H' l=some (.lst (as.map V.ref))->Kq t H' as rs->rs.length<=6->1<=rs.length->Q (.ref l) H'):=q
   refine⟨lr,rfl,⟨_,A4.of e3⟩,λD hD=> ?_⟩;refine OS ((rs.map λr=>(shownRec r).length).map λ(c:Nat)=>V.int (c:Nat)) (by simp[bl]) (A4.of e3) (by rw[length_map,bl,sizeLine_eq];lia) hD (λi x y H4 Q1 hx hy s4 q1=> ?_) λH4 s4 e4=> ?_
   ·obtain⟨b,hb,rfl⟩:=CV hx;obtain⟨c,hc,rfl⟩:=A5 hy;obtain⟨r,hr1,rfl⟩:=A5 hc;have ro:=rok r (mem_of_getElem? hr1);obtain⟨fs,efs⟩:=ro.rc;have rep:=(hrep i b r hb hr1).mono (KO.of s4);rw[efs] at rep;have w6:=ro.ok;have c24:=ro.Hf;have dp:=ro.dp;rw[efs] at w6 c24 dp;have dp:Mt.dep fs+1<=42:=dp;have len:=tI rep w6 c24 ro.nm;obtain⟨dr,lf,ll,lr,as1,ls1,rs1,g1,_⟩:=id rep;refine⟨⟨_,_,g1,rfl⟩,b,fs,r.x.name,rfl,rep,ro.nm,w6,by lia,c24,λH5 s5=>⟨_,rfl,by rw[As,sizeLine_eq];lia,?_⟩⟩;rw[As,<-tD r efs];exact q1 H5 s5
   ·refine⟨D,rfl,(rs.map λr=>(shownRec r).length).map λ(c:Nat)=>(c:Int),A4.of (by rw[e4];simp only[map_map];rfl),?_⟩;rw[U2];have ef:(rs.map λr=>(shownRec r).length).sum=(rs.flatMap shownRec).length:=by rw[List.length_flatMap]
    rw[ef];refine Az (λz5=> ?_) λz5=> ?_
    ·rw[if_pos (show TEXT<(rs.flatMap shownRec).length from Int.ofNat_lt.mp z5)] at q;exact λdx H5 _ e5 s5=>q dx H5 ((s3.trans s4).trans s5) e5
    ·rw[if_neg (show ¬TEXT<(rs.flatMap shownRec).length from λy=>z5 (Int.ofNat_lt.mpr y))] at q;exact q H4 lr bs' (s3.trans s4) (s4 _ _ e3) ⟨bl,λi a r ha hr=>Xi.of (rok r (mem_of_getElem? hr)) ((hrep i a r ha hr).mono (KO.of s4))⟩ rs6 rs1
end
section
def zY:HO->Prop
 | .lst _=>True
 | .tup _=>True
 | .ins _ _ fs=>fs.map (·.1)∈ [Ub,KL,KN,KP,KQ,KR,fS,dE]
 |_=>False
def KS(H H':Hp):Prop:=∀b o,zY o->H b=some o->H' b=some o
theorem oS{fs:List (Str×V)}(n:List Str)(h:fs.map (·.1)=n)(hn:n∈ [Ub,KL,KN,KP,KQ,KR,fS,dE]):zY (.ins C dx fs):=by show fs.map (·.1)∈_;rw[h];exact hn
theorem Fb.ks{ls:List Valaya.Leaf}(k:KS H H')(h:Fb t H as ls):Fb t H' as ls:=
 ⟨h.1,λi a f ha hf=>let ⟨dx,g,gs,h1,h2,h3,h4⟩:=h.2 i a f ha hf
  ⟨dx,g,gs,k _ _ (oS Ub rfl (by decide+kernel)) h1,k _ _ trivial h2,h3,λi b x hb hx=>k _ _ trivial (h4 i b x hb hx)⟩⟩
theorem Il.ks{ls:List Valaya.Leaf}(k:KS H H')(h:Il H as ls):Il H' as ls:=⟨h.1,λi a ha=>k _ _ trivial (h.2 i a ha)⟩
theorem Rep.ks(k:KS H H'):∀{ty:Valaya.Ty} {m:Md},Rep t H ty m->Rep t H' ty m:=by
 intro ty;induction ty with
 |num lo hi al=>intro m h;cases m<;>simp only[Rep] at h ⊢;obtain⟨dx,h⟩:=h;exact⟨dx,k _ _ (oS KL rfl (by decide+kernel)) h⟩
 |maybe ty ih=>intro m h;cases m<;>simp only[Rep] at h ⊢;obtain⟨dx,b,h,r⟩:=h;exact⟨dx,b,k _ _ (oS KN rfl (by decide+kernel)) h,ih r⟩
 |many n ty ih=>intro m h;cases m<;>simp only[Rep] at h ⊢;obtain⟨dx,b,h,r⟩:=h;exact⟨dx,b,k _ _ (oS KP rfl (by decide+kernel)) h,ih r⟩
 |one_ fs ih=>intro m h;cases m<;>simp only[Rep] at h ⊢;obtain⟨dx,l1,l2,ns,bs,h,h1,h2,r⟩:=h;exact⟨dx,l1,l2,ns,bs,k _ _ (oS KQ rfl (by decide+kernel)) h,k _ _ trivial h1,k _ _ trivial h2,ih r⟩
 |named x ty ih=>intro m h;cases m<;>simp only[Rep] at h ⊢;obtain⟨dx,b,h,r⟩:=h;exact⟨dx,b,k _ _ (oS KR rfl (by decide+kernel)) h,ih r⟩
 |rec_ fs ih=>intro m h;cases m<;>simp only[Rep] at h ⊢;obtain⟨dx,lf,ll,lr,as,ls,rs,h,h1,h2,h3,h4,h5,r⟩:=h;exact⟨dx,lf,ll,lr,as,ls,rs,k _ _ (oS dE rfl (by decide+kernel)) h,k _ _ trivial h1,k _ _ trivial h2,k _ _ trivial h3,h4.ks k,h5.ks k,ih r⟩
 |nil=>intro m h;cases m<;>simp only[Rep] at h ⊢<;>exact h
 |field x hh ty r ih1 ih2=>
  intro m h;cases m<;>simp only[Rep] at h ⊢
  ·obtain⟨b,ns',bs',h1,h2,h3,h4⟩:=h;exact⟨b,ns',bs',h1,h2,ih1 h3,ih2 h4⟩
  ·obtain⟨a,as',dx,b,h1,h2,h3,h4⟩:=h;exact⟨a,as',dx,b,h1,k _ _ (oS fS rfl (by decide+kernel)) h2,ih1 h3,ih2 h4⟩
theorem Xi.ks{a:Addr}{ty:Ty}(h:Xi t H a ty)(k:KS H H'):Xi t H' a ty:=⟨let ⟨x,fs,e,h1,h2⟩:=h.ok;⟨x,fs,e,h1.ks k,h2⟩,h.ls⟩
theorem Kq.ks{as:List Addr}{AS:List Rec}(h:Kq t H as AS)(k:KS H H'):Kq t H' as AS:=⟨h.1,λi a r h1 h2=>(h.2 i a r h1 h2).ks k⟩
theorem KS.kp{fs:List (Str×V)}(k:Kp p H H')(hp:H p=some (.ins C dx fs))(hn:fs.map (·.1)∉ [Ub,KL,KN,KP,KQ,KR,fS,dE]):KS H H':=λb o ok e=>k b o (λz=>by subst z;rw[hp] at e;cases e;exact hn ok) e
theorem rL.ks{k dx l:Addr}{as:List Addr}{AS:List Rec}(h:rL t H k dx l as AS)(s:KS H H')(e:H' k=some (.ins t.BX dx [("records",.ref l)])):rL t H' k dx l as AS:=⟨e,s _ _ trivial h.lst,h.tX.ks s,h.Hf⟩
def xq:List Str:=["records"]
def u5:List Str:=["numbers","reached"]
theorem yO:xq∉ [Ub,KL,KN,KP,KQ,KR,fS,dE]:=by decide+kernel
theorem yP:u5∉ [Ub,KL,KN,KP,KQ,KR,fS,dE]:=by decide+kernel
inductive mG(K:Frag)(t:Bz)(vs:List V)(H:Hp)(Q:VK)(E:XK):Prop | mk:∀(k a:Addr) (AS:List Rec) (bs:Bytes),vs=[.ref k,.ref a]->NY t H k AS->A4 K H a (Gk bs)->bs.length<=8192->(∀H' (p:Addr) (recs':List Rec),H p=none->Kp k H H'->NY t H' k recs'->Bw recs'=(Valayc.step (Bw AS) (.load bs)).1->H' p=some (.lst (iL (ValaycNeutral.encode (Valayc.step (Bw AS) (.load bs)).2)))->Q (.ref p) H')->mG K t vs H Q E
theorem aD:FT P w AJ T 97 t.ND t.NF ["self","text"] (mG K t):=by
 refine T.TV.Cr Rg ?_;rintro _ A _ s H _ Q E hr ⟨k,a,AS,bs,rfl,⟨dx,l,as,h⟩,h1,h2,q⟩;have nd:=Rg.nd;refine⟨_,AD (vc (i:=3) (EE:=λe o H'=>∃dx f,o=some dx/\e= .ref t.BC/\Valaya.read bs= .error f/\AR H H'/\H' dx=some (XD dx [("code",.int (f.code:Nat)),("place",.int (f.place:Nat))])) T.FK rfl T.IX hr.hd rfl rfl nd rfl rfl
   (λAF E' hx=>AH (ps_sl 2 nd (AV (bP T) hr.lt rfl T.eO T.O7.kp (eX T) .nil hx (AB (pv 1) AE))))
   (λAF ea oe=>AH (AO (BU (AB Aj (AB (lD T.FK (.inl rfl) (pv 3) rfl) (AB (lD T.FK (.inr rfl) (pv 3) rfl) AE)))))))
  (AD (BZ (pv 0) (pv 2) rfl) (AH (AO (An Kk (BU (AB Aj (AB (AZ Ak rfl T.B7 PySem.boot_len (AB (pv 2) AE)) AE))) (Jk (own:=[("record",4)]) rfl nd (Cb (pv 2)) (B4 rfl) (λ_ _ _ _ _=>(A8 (i:=4) nd rfl (Or.inl rfl) (.inr rfl))) (λ_ _ _ _ _=>Ct) (λ_ _ _ _ _=>(Ad (pv 4) T.Ao T.CW (CJ T) hr.lt (CZ T) .nil AK))))))),?_⟩
 refine⟨⟨a,bs,rfl,h1,h2,?_⟩,λAF ea oe dx' H' hE hc hd hv hn=> ?_⟩
 ·cases er:Valaya.read bs with
  |error f=>exact λdx H' s e=>⟨dx,f,rfl,rfl,rfl,s,e⟩
  |ok rs=>
   intro H1 lr as' s1 e1 ra r6 r1;have es:Valayc.step (Bw AS) (.load bs)=(some rs,⟨1,Valayc.nats (rs.length::rs.map λr=>countLeaves r.t)⟩):=by show (match Valaya.read bs with | .ok l=>_ | .error f=>_)=_;rw[er]
   rw[es] at q;have k1:=s1 _ _ h.at_;walk_at "rd";refine⟨_,⟨_,_,_,k1,T.BB,T.A3,(by show 1<1000;decide),rfl⟩,?_⟩;have nk:∀{c:Addr} {o:HO},c≠k->H1 c=some o->(upd H1 k (HO.ins t.BX dx (Cg (Str.ofString "records") (V.ref lr) [("records",V.ref l)]))) c=some o:=λn e=>by rw[AM n];exact e
   have kk:Kp k H1 (upd H1 k (HO.ins t.BX dx (Cg (Str.ofString "records") (V.ref lr) [("records",V.ref l)]))):=Kp.upd;have hk2:(upd H1 k (HO.ins t.BX dx (Cg (Str.ofString "records") (V.ref lr) [("records",V.ref l)]))) k=some (.ins t.BX dx [("records",V.ref lr)]):=AG;have e2:=kk _ _ (λz=>by rw[z,k1] at e1;cases e1) e1;have ra2:Kq t (upd H1 k (HO.ins t.BX dx (Cg (Str.ofString "records") (V.ref lr) [("records",V.ref l)]))) as' rs:=ra.ks (KS.kp kk k1 yO);generalize (upd H1 k (HO.ins t.BX dx (Cg (Str.ofString "records") (V.ref lr) [("records",V.ref l)])))=H2 at *;refine⟨_,.inl (A4.of e2),by rw[sizeLine_eq];decide,λp n=> ?_⟩;have s3:=AR.upd (o:=HO.lst [V.int 1,V.int ((as'.map V.ref).length:Nat)]) n;have e3:=s3 _ _ e2;refine⟨lr,rfl,⟨_,A4.of e3⟩,λD hD=> ?_⟩;refine OS ((rs.map λr=>countLeaves r.t).map λ(c:Nat)=>V.int (c:Nat)) (by simp[ra.1]) (A4.of e3) (by rw[length_map,ra.1,sizeLine_eq];lia) hD (λi x y H4 Q1 hx hy s4 q1=> ?_) λH4 s4 e4=> ?_
   ·obtain⟨b,hb,rfl⟩:=CV hx;obtain⟨c,hc,rfl⟩:=A5 hy;obtain⟨r,hr1,rfl⟩:=A5 hc;have G:=((ra2.2 i b r hb hr1).mono s3).mono s4;obtain⟨_,_,_,_,_,at4⟩:=G.at_;refine⟨⟨_,_,at4,rfl⟩,U4 (E:=λ_ _ _=>False) G ?_⟩;have e:(GQ r.t).length=countLeaves r.t:=Mt.Dd ..;rw[e];exact q1 H4 (AR.refl H4)
   ·refine⟨D,rfl,_,s4 _ _ AG,_,e4,by simp only[length_map,length_cons,length_nil,sizeLine_eq];lia,λp5 n5=> ?_⟩;have s5:=(s3.trans s4).trans (AR.upd (o:=HO.lst ([V.int 1,V.int ((as'.map V.ref).length:Nat)]++(rs.map λr=>countLeaves r.t).map λ(c:Nat)=>V.int (c:Nat))) n5);refine q _ p5 rs (by cases e:H p5 with | none=>rfl | some o=>exact absurd ((s3.trans s4) _ _ (kk _ _ (λz=>by rw[z,(s3.trans s4) _ _ hk2] at n5;cases n5) (s1 _ _ e))) (by rw[n5];exact nofun)) ((Kp.of s1).trans (kk.trans (Kp.of s5))) ⟨dx,lr,as',s5 _ _ hk2,s5 _ _ e2,ra2.mono s5,r6⟩ ?_ ?_
    ·unfold Bw;rw[if_neg (by lia)]
    ·rw[AG,length_map,ra.1];unfold iL ValaycNeutral.encode Valayc.nats;simp only[map_cons,map_map];rfl
 ·obtain⟨dx1,f,e1,_,ef,sm,xd⟩:=hE;cases e1;have es:Valayc.step (Bw AS) (.load bs)=(Bw AS,faulty f):=by
   show (match Valaya.read bs with | .ok l=>_ | .error f=>_)=_;rw[ef]
  rw[es] at q;refine⟨ea,oe,dx',_,_,rfl,mem_append.mpr (.inr (mem_singleton.mpr rfl)),hc,hd,hv,xd,rfl,ea,oe,dx',_,_,rfl,mem_append.mpr (.inr (mem_singleton.mpr rfl)),hc,hd,hv,xd,rfl,by rw[sizeLine_eq];show 3<=_;decide,λp n=> ?_⟩;exact q _ p AS (sm.free n) (Kp.of (sm.trans (AR.upd n))) ⟨dx,l,as,h.mono (sm.trans (AR.upd n))⟩ rfl AG
end
section
def n8(l:Addr)(i:Nat):List (Str×V):=[("numbers",.ref l),("reached",.int i)]
structure Xo(K:Frag)(t:Bz)(H:Hp)(r dx l:Addr)(ns:List Int)(i:Nat):Prop where
 at_:H r=some (.ins t.Bn dx (n8 l i))
 sq:A4 K H l (iL ns)
theorem Xo.mono(h:Xo K t H r dx l ns i)(k:AR H H'):Xo K t H' r dx l ns i:=⟨k _ _ h.at_,k.seq h.sq⟩
theorem wV{fs:List (Str×V)}{o:HO}(h:A4 K H l xs)(hr:H r=some (.ins C dx fs)):A4 K (upd H r o) l xs:=by
 rcases h with(h | ⟨o,h⟩) | h
 ·exact .inl (.inl (by rw[AM (λz=>by rw[z,hr] at h;cases h)];exact h))
 ·exact .inl (.inr ⟨o,by rw[AM (λz=>by rw[z,hr] at h;cases h)];exact h⟩)
 ·exact .inr h
theorem Xo.step(h:Xo K t H r dx l ns i):Xo K t (upd H r (.ins t.Bn dx (n8 l j))) r dx l ns j:=⟨AG,wV h.sq h.at_⟩
inductive Zh(K:Frag)(t:Bz)(vs:List V)(H:Hp)(Q:VK)(E:XK):Prop | mk:∀(r dx l:Addr) (ns:List Int) (i:Nat),vs=[.ref r]->Xo K t H r dx l ns i->Q (.bl (decide (i=ns.length))) H->Zh K t vs H Q E
theorem V0:FT P w AJ T 1 t.IJ t.IK ["self"] (Zh K t):=by refine T.N9.Cr Vy ?_;rintro _ A _ s H _ Q E hr ⟨r,dx,l,ns,i,rfl,h,q⟩;refine⟨_,(AH (AO (KU B3 (AQ (pv 0) rfl) (AZ Ak rfl T.B7 PySem.boot_len (AB (AQ (pv 0) rfl) AE)) (AY _)))),?_⟩;walk_at "rd";refine⟨_,⟨_,_,_,h.at_,T.Bk,T.B6,rfl⟩,_,⟨_,_,_,h.at_,T.Bk,T.Ex,rfl⟩,l,rfl,_,.inl h.sq,rfl,?_⟩;rw[length_map];rw[show decide (V.int (i:Nat)=V.int (ns.length:Nat))=decide (i=ns.length) by rw[decide_eq_decide,V.int.injEq,Int.natCast_inj]];exact q
inductive Gv(K:Frag)(t:Bz)(vs:List V)(H:Hp)(Q:VK)(E:XK):Prop | mk:∀(r dx l:Addr) (ns:List Int) (i:Nat) (z:Int),vs=[.ref r]->Xo K t H r dx l ns i->ns[i]?=some z->Q (.int z) (upd H r (.ins t.Bn dx (n8 l (i+1))))->Gv K t vs H Q E
theorem Bi:FT P w AJ T 1 t.Ee t.Ef ["self"] (Gv K t):=by
 refine T.JF.Cr P6 ?_;rintro _ A _ s H _ Q E hr ⟨r,dx,l,ns,i,z,rfl,h,hz,q⟩;refine⟨_,(AD (WA (pv 0) Aj iz)
   (AH (AO (BY Av (AQ (pv 0) rfl) (An D5 (AQ (pv 0) rfl) Aj) (λ_ _=>rfl))))),?_⟩
 walk_at "rd";have e0:Cg (Str.ofString "reached") (V.int ((i:Int)+1)) (n8 l i)=n8 l (i+1):=rfl;refine⟨_,_,_,h.at_,T.Bk,T.B6,_,rfl,_,rfl,_,_,h.at_,(by show 2<1000;decide),?_⟩;rw[e0];have h2:=h.step (j:=i+1);exact⟨_,⟨_,_,_,h2.at_,T.Bk,T.Ex,rfl⟩,_,⟨_,_,_,h2.at_,T.Bk,T.B6,rfl⟩,_,rfl,l,rfl,_,⟨_,h2.sq,(by rw[show (((i+1:Nat):Int) - 1)=(i:Int) by lia];exact Fp (by rw[getElem?_map,hz];rfl))⟩,q⟩
inductive Wg(K:Frag)(t:Bz)(vs:List V)(H:Hp)(Q:VK)(E:XK):Prop | mk:∀(r dx l:Addr) (ns:List Int) (i n:Nat),vs=[.ref r]->Xo K t H r dx l ns i->ns[i]?=some (n:Int)->i+1+n<=ns.length->(∀H' p,Kp r H H'->Xo K t H' r dx l ns (i+1+n)->H' p=some (.lst (iL ((ns.drop (i+1)).take n)))->H p=none->Q (.ref p) H')->Wg K t vs H Q E
theorem GP:FT P w AJ T 2 t.HJ t.HK ["self"] (Wg K t):=by
 refine T.ML.Cr Lk ?_;rintro _ A _ s H _ Q E hr ⟨r,dx,l,ns,i,n,rfl,h,hz,hn,q⟩;have nd:=Lk.nd;refine⟨_,(AD (ps_sl 1 nd (Ad (pv 0) T.Bk T.Bo (Bi T) hr.lt (Bp T) .nil AK))
   (AD (WA (pv 0) (pv 1) iz)
   (AH (AO (QO Uh (AQ (pv 0) rfl) (Lr (An D5 (AQ (pv 0) rfl) (pv 1))) (Lr (AQ (pv 0) rfl))))))),?_⟩
 walk_at "rd";refine⟨⟨_,_,h.at_,rfl⟩,r,dx,l,ns,i,_,rfl,h,hz,?_⟩;have h2:=h.step (j:=i+1);have e0:Cg (Str.ofString "reached") (V.int (((i+1:Nat):Int)+(n:Int))) (n8 l (i+1))=n8 l (i+1+n):=rfl;refine⟨_,_,_,h2.at_,T.Bk,T.B6,_,rfl,_,rfl,_,rfl,_,_,h2.at_,(by show 2<1000;decide),?_⟩;rw[e0,BR];have h3:=h.step (j:=i+1+n);refine⟨_,⟨_,_,_,h3.at_,T.Bk,T.Ex,rfl⟩,_,⟨_,_,_,h3.at_,T.Bk,T.B6,rfl⟩,_,rfl,_,rfl,_,⟨_,_,_,h3.at_,T.Bk,T.B6,rfl⟩,_,rfl,l,rfl,_,h3.sq,λp np=> ?_⟩;have ec:UX (iL ns) (some (((i+1+n:Nat):Int) - (n:Int))) (some ((i+1+n:Nat):Int))=iL ((ns.drop (i+1)).take n):=by unfold UX iL;rw[show (((i+1+n:Nat):Int) - (n:Int))=((i+1:Nat):Int) by lia,HT.SH,HT.SH,length_map,min_eq_left (by lia),min_eq_left (by lia),show i+1+n - (i+1)=n by lia,<-map_drop,<-map_take]
 rw[ec];have pr:p≠r:=λz=>by rw[z,AG] at np;cases np
 have npH:H p=none:=by rw[AM pr] at np;exact np
 refine q _ p (λb o nb e=> ?_) (h3.mono (AR.upd np)) AG npH;rw[AM (λz=>by rw[z,npH] at e;cases e),AM nb];exact e
inductive Rv(t:Bz)(vs:List V)(H:Hp)(Q:VK)(E:XK):Prop | mk:∀(r dx l:Addr),vs=[.ref r,.ref l]->H r=some (.ins t.Bn dx [])->Q .Fn (upd H r (.ins t.Bn dx (n8 l 0)))->Rv t vs H Q E
theorem aE:FT P w AJ T 1 t.M9 t.NA ["self","numbers"] (Rv t):=by
 refine T.TR.Cr Z1 ?_;rintro _ A _ s H _ Q E hr ⟨r,dx,l,rfl,h,q⟩;refine⟨_,(AD (BZ (pv 0) (pv 1) rfl)
   (AH (BZ (pv 0) Aj rfl))),?_⟩
 walk_at "rd";refine⟨_,⟨_,_,_,h,T.Bk,T.Ex,(by show 0<1000;decide),rfl⟩,_,⟨_,_,_,AG,T.Bk,T.B6,(by show 1<1000;decide),rfl⟩,?_⟩;rw[BR];exact q
inductive Rw(t:Bz)(vs:List V)(H:Hp)(Q:VK)(E:XK):Prop | mk:∀(k dx:Addr),vs=[.ref k]->H k=some (.ins t.BX dx [])->(∀H',Kp k H H'->NY t H' k []->Q .Fn H')->Rw t vs H Q E
theorem aF:FT P w AJ T 1 t.NB t.NC ["self"] (Rw t):=by
 refine T.TU.Cr Z2 ?_;rintro _ A _ s H _ Q E hr ⟨k,dx,rfl,h,q⟩;refine⟨_,(AH (BZ (pv 0) (BU AE) rfl)),?_⟩;walk_at "rd";refine⟨zero_le _,λp n=> ?_⟩;have s1:=AR.upd (o:=HO.lst []) n;have pk:p≠k:=λz=>by rw[z,h] at n;cases n
 refine⟨_,⟨_,_,_,s1 _ _ h,T.BB,T.A3,(by show 0<1000;decide),rfl⟩,q _ (λb o nb e=> ?_) ⟨dx,p,[],AG,by rw[AM pk];exact AG,⟨rfl,λi a r z=>by cases z⟩,zero_le _⟩⟩;rw[AM nb];exact s1 _ _ e
end
theorem mU{c A B:Prop} [Decidable c](h:c)(a:A):if c then A else B:=by rw[if_pos h];exact a
theorem Tw{c A B:Prop} [Decidable c](h:¬c)(b:B):if c then A else B:=by rw[if_neg h];exact b
inductive Cz:List Int->Valayc.Call->Nat->Prop
 |load {row r:List Int} (hb:∀z∈row,0<=z/\z<=255) (hl:row.length<=8192):Cz (0::(row.length:Int)::(row++r)) (.load (bytesOf row)) (2+row.length)
 |fit {a b:Int} {row r:List Int}:Cz (1::a::b::(row.length:Int)::(row++r)) (.fit a b row) (4+row.length)
 |least {a b:Int} {r:List Int}:Cz (2::a::b::r) (.least a b) 3
 |rule {a b:Int} {r:List Int}:Cz (3::a::b::r) (.rule a b) 3
 |waste {a b:Int} {r:List Int}:Cz (4::a::b::r) (.waste a b) 3
 |orders {a b:Int} {r:List Int}:Cz (5::a::b::r) (.orders a b) 3
 |judge {a b n:Int} {row r:List Int}:Cz (6::a::b::n::(row.length:Int)::(row++r)) (.judge a b n row) (5+row.length)
 |table {a:Int} {r:List Int}:Cz (7::a::r) (.table a) 2
section
structure aL(K:Frag)(t:Bz)(H:Hp)(r dx l k:Addr)(ns:List Int)(i:Nat)(AS:List Rec):Prop where
 rd:Xo K t H r dx l ns i
 kp:NY t H k AS
 tb:Pz t H
theorem NY.kp{r dr k:Addr}{fs:List (Str×V)}{C:Addr}{AS:List Rec}(h:NY t H k AS)(kk:Kp r H H')(hr:H r=some (.ins C dr fs))(hn:fs.map (·.1)=u5):NY t H' k AS:=by obtain⟨dx,l,as,h⟩:=h;exact⟨dx,l,as,h.ks (KS.kp kk hr (by rw[hn];exact yP)) (kk _ _ (Yp (n:=xq) (m:=u5) h.at_ hr rfl hn (by decide+kernel)) h.at_)⟩
theorem NY.same{k:Addr}(h:NY t H k AS)(s:AR H H'):NY t H' k AS:=let ⟨dx,l,as,h⟩:=h;⟨dx,l,as,h.mono s⟩
theorem Kp.free{o:HO}(k:Kp r H H')(hr:H' r=some o)(n:H' p=none):H p=none:=by
 cases e:H p with
 |none=>rfl
 |some u=>exact absurd (k _ _ (λz=>by rw[z,hr] at n;cases n) e) (by rw[n];exact nofun)
def dG(K:Frag)(t:Bz)(H:Hp)(Q:VK)(r dx l k:Addr)(ns:List Int)(j:Nat)(AS:List Rec)(c:Valayc.Call):Prop:=∀H' p recs',H p=none->(∀b o,b≠r->b≠k->b≠t.NW->H b=some o->H' b=some o)->aL K t H' r dx l k ns j recs'->Bw recs'=(Valayc.step (Bw AS) c).1->H' p=some (.lst (iL (ValaycNeutral.encode (Valayc.step (Bw AS) c).2)))->Q (.ref p) H'
theorem Es{rest:List Int}{z:Int}(h:ns.drop i=z::rest):ns[i]?=some z/\ns.drop (i+1)=rest:=by
 refine⟨?_,?_⟩
 ·have:=congrArg (λl=>l[0]?) h;simpa using this
 ·rw[<-drop_drop (i:=1) (j:=i),h];rfl
theorem aL.mono{r dx l k:Addr}{ns:List Int}{i:Nat}{AS:List Rec}(h:aL K t H r dx l k ns i AS)(s:AR H H'):aL K t H' r dx l k ns i AS:=⟨h.rd.mono s,h.kp.same s,Tab.same h.tb s⟩
theorem Yt{k:Addr}{z:Int}(tw:aL K t H r dx l k ns j AS)(hz:ns[j]?=some z)(q:∀H',Kp r H H'->aL K t H' r dx l k ns (j+1) AS->Q (.int z) H'):
  Ij t.Bn H r (Str.ofString "take_number")/\Gv K t [V.ref r] H Q E:=
 ⟨⟨_,_,tw.rd.at_,rfl⟩,r,dx,l,ns,j,z,rfl,tw.rd,hz,q _ Kp.upd ⟨tw.rd.step,tw.kp.kp Kp.upd tw.rd.at_ rfl,Tab.kp tw.tb Kp.upd tw.rd.at_⟩⟩
theorem jI{k:Addr}{row rest:List Int}(tw:aL K t H r dx l k ns j AS)(hd:ns.drop j=(row.length:Int)::(row++rest))(q:∀H' p,Kp r H H'->aL K t H' r dx l k ns (j+1+row.length) AS->H' p=some (.lst (iL row))->Q (.ref p) H'):
  Ij t.Bn H r (Str.ofString "take_row")/\Wg K t [V.ref r] H Q E:=by
 obtain⟨h1,h2⟩:=Es hd;have hl:j+1+row.length<=ns.length:=by
  have:=congrArg List.length hd;rw[length_drop,length_cons,length_append] at this
  lia
 refine⟨⟨_,_,tw.rd.at_,rfl⟩,r,dx,l,ns,j,row.length,rfl,tw.rd,h1,hl,λH' p k1 r1 e1 _=>q H' p k1 ⟨r1,tw.kp.kp k1 tw.rd.at_ rfl,Tab.kp tw.tb k1 tw.rd.at_⟩ ?_⟩;rw[e1,h2,List.take_left]
theorem dG.gives{k:Addr}{c:Valayc.Call}(q:dG K t H Q r dx l k ns j AS c)(kk:Kp r H H1)(tw:aL K t H1 r dx l k ns j AS)(hs:(Valayc.step (Bw AS) c).1=Bw AS):ON H1 Q (YQ AS c):=
 λH' p n s e=>q H' p AS (Kp.free kk tw.rd.at_ n) (λb o b1 _ _ e=>s _ _ (kk b o b1 e)) (tw.mono s) hs.symm e
theorem KS.tab(tb:Pz t H)(k:Kp t.NW H H'):KS H H':=λb o ok e=>k b o (λz=>by obtain⟨ps,a,_⟩:=tb;rw[z,a] at e;cases e;exact ok) e
theorem aL.tab{r dx l k:Addr}{ns:List Int}{i:Nat}{AS:List Rec}(h:aL K t H r dx l k ns i AS)(tb:Pz t H')(kk:Kp t.NW H H'):aL K t H' r dx l k ns i AS:=by
 have nn:∀{b:Addr} {o:HO},H b=some o->(∀ps,o≠ .YM ps)->H' b=some o:=λe n=>kk _ _ (λz=>by obtain⟨ps,a,_⟩:=h.tb;rw[z,a] at e;cases e;exact n ps rfl) e
 obtain⟨dk,lk,as,hk⟩:=h.kp;refine⟨⟨nn h.rd.at_ (λ_ z=>by cases z),?_⟩,⟨dk,lk,as,hk.ks (KS.tab h.tb kk) (nn hk.at_ (λ_ z=>by cases z))⟩,tb⟩;rcases h.rd.sq with(e | ⟨o,e⟩) | e
 ·exact .inl (.inl (nn e (λ_ z=>by cases z)))
 ·exact .inl (.inr ⟨o,nn e (λ_ z=>by cases z)⟩)
 ·exact .inr e
theorem dG.jJ{k:Addr}{c:Valayc.Call}(q:dG K t H Q r dx l k ns j AS c)(kk:Kp r H H1)(tw:aL K t H1 r dx l k ns j AS)(hs:(Valayc.step (Bw AS) c).1=Bw AS):QN t H1 Q (YQ AS c):=
 λH' p n tb k2 e=>q H' p AS (Kp.free kk tw.rd.at_ n) (λb o b1 _ b3 e=>k2 _ _ b3 (kk b o b1 e)) (tw.tab tb k2) hs.symm e
theorem aL.rM{k:Addr}(h:aL K t H r dx l k ns i AS):∃dk lk,H k=some (.ins t.BX dk [("records",.ref lk)]):=let ⟨dx,l,as,h⟩:=h.kp;⟨dx,l,h.at_⟩
inductive KH(K:Frag)(t:Bz)(vs:List V)(H:Hp)(Q:VK)(E:XK):Prop | mk:∀(r dx l k:Addr) (ns:List Int) (i n:Nat) (AS:List Rec) (z:Int) (c:Valayc.Call) (rest:List Int),vs=[.int z,.ref r,.ref k]->aL K t H r dx l k ns (i+1) AS->ns.drop i=z::rest->Cz (z::rest) c n->z≠0->z≠7->dG K t H Q r dx l k ns (i+n) AS c->KH K t vs H Q E
theorem Sg(BM:OM mg AJ):FT P w AJ T 98 t.Fz t.F0 ["call","reader","keeper"] (KH K t):=by
 refine T.GG.Cr Jy ?_;rintro _ A _ s H _ Q E hr ⟨r,dx,l,k,ns,i,n,AS,z,c,rest,rfl,tw,hd,hc,z0,z7,q⟩;have nd:=Jy.nd;refine⟨_,(AD (ps_sl 3 nd (Ad (pv 1) T.Bk T.Bo (Bi T) hr.lt (Bp T) .nil AK))
   (AD (ps_sl 4 nd (Ad (pv 1) T.Bk T.Bo (Bi T) hr.lt (Bp T) .nil AK))
   (AD (Ay (AU B3 (pv 0) (A9 T.yE) (AY _)) (AH (AO (Ac (pv 2) T.BB T.eQ (bO T) hr.lt (fA T) .nil AK (AB (pv 3) (AB (pv 4) (AB (Ad (pv 1) T.Bk T.HL (GP T) hr.lt (HU T) .nil AK) AE)))))) AX)
   (AD (Ay (AU B3 (pv 0) (A9 T.sY) (AY _)) (AH (AO (Ac (pv 2) T.BB T.Zl (X1 T) hr.lt (Zr T) .nil AK (AB (pv 3) (AB (pv 4) AE))))) AX)
   (AD (Ay (AU B3 (pv 0) (A9 T.vj) (AY _)) (AH (AO (Ac (pv 2) T.BB T.ae (aC T BM) hr.lt (bD T) .nil AK (AB (pv 3) (AB (pv 4) AE))))) AX)
   (AD (Ay (AU B3 (pv 0) (A9 T.sZ) (AY _)) (AH (AO (Ac (pv 2) T.BB T.Zm (X2 T BM) hr.lt (Zs T) .nil AK (AB (pv 3) (AB (pv 4) AE))))) AX)
   (AD (Ay (AU B3 (pv 0) (A9 T.qo) (AY _)) (AH (AO (Ac (pv 2) T.BB T.Xr (Wt T) hr.lt (Xz T) .nil AK (AB (pv 3) (AB (pv 4) AE))))) AX)
   (AD (Ay (AU B3 (pv 0) (A9 T.sf) (AY _)) (AD (ps_sl 5 nd (Ad (pv 1) T.Bk T.Bo (Bi T) hr.lt (Bp T) .nil AK))
   (AH (AO (Ac (pv 2) T.BB T.Zn (X3 T) hr.lt (Zt T) .nil AK (AB (pv 3) (AB (pv 4) (AB (pv 5) (AB (Ad (pv 1) T.Bk T.HL (GP T) hr.lt (HU T) .nil AK) AE)))))))) AX)
   (AH pj))))))))),?_⟩
 walk_at "rd";have go:∀{a b:Int} {rs:List Int} (R:V->V->Hp->Prop),ns.drop i=z::a::b::rs->(∀H2,Kp r H H2->aL K t H2 r dx l k ns (i+1+1+1) AS->R (.int a) (.int b) H2)->
   Ij t.Bn H r (Str.ofString "take_number")/\Gv K t [V.ref r] H (λx H1=>Ij t.Bn H1 r (Str.ofString "take_number")/\Gv K t [V.ref r] H1 (λx_4 H1=>R x x_4 H1) λ_ _ _=>False) λ_ _ _=>False:=λR hd hq=>by
  obtain⟨_,d1⟩:=Es hd;obtain⟨a1,d2⟩:=Es d1;obtain⟨a2,d3⟩:=Es d2;exact Yt tw a1 λH1 k1 t1=>Yt t1 a2 λH2 k2 t2=>hq H2 (k1.trans k2) t2
 cases hc with
 |load=>exact absurd rfl z0
 |table=>exact absurd rfl z7
 | @fit a b row rs=>
  refine go (λx x_4 H1=>_) hd λH2 k2 t2=>⟨rfl,mU rfl ?_⟩;obtain⟨dk,lk,ek⟩:=t2.rM;have d3:=(Es (Es (Es hd).2).2).2;refine⟨⟨_,_,ek,rfl⟩,jI t2 d3 λH3 p k3 t3 e3=>⟨k,p,AS,a,b,row,rfl,t3.kp,e3,?_⟩⟩;have t3:aL K t H3 r dx l k ns (i+(4+row.length)) AS:=by rw[show i+(4+row.length)=i+1+1+1+1+row.length by lia];exact t3
  exact q.gives (k2.trans k3) t3 (by cases Bw AS<;>rfl)
 | @least a b rs=>refine go (λx x_4 H1=>_) hd λH2 k2 t2=>⟨rfl,Tw (by decide) ⟨rfl,mU rfl ?_⟩⟩;obtain⟨dk,lk,ek⟩:=t2.rM;exact⟨⟨_,_,ek,rfl⟩,k,AS,a,b,rfl,t2.kp,q.gives k2 t2 (by cases Bw AS<;>rfl)⟩
 | @rule a b rs=>refine go (λx x_4 H1=>_) hd λH2 k2 t2=>⟨rfl,Tw (by decide) ⟨rfl,Tw (by decide) ⟨rfl,mU rfl ?_⟩⟩⟩;obtain⟨dk,lk,ek⟩:=t2.rM;exact⟨⟨_,_,ek,rfl⟩,k,AS,a,b,rfl,t2.kp,t2.tb,q.jJ k2 t2 (by cases Bw AS<;>rfl)⟩
 | @waste a b rs=>refine go (λx x_4 H1=>_) hd λH2 k2 t2=>⟨rfl,Tw (by decide) ⟨rfl,Tw (by decide) ⟨rfl,Tw (by decide) ⟨rfl,mU rfl ?_⟩⟩⟩⟩;obtain⟨dk,lk,ek⟩:=t2.rM;exact⟨⟨_,_,ek,rfl⟩,k,AS,a,b,rfl,t2.kp,t2.tb,q.jJ k2 t2 (by cases Bw AS<;>rfl)⟩
 | @orders a b rs=>refine go (λx x_4 H1=>_) hd λH2 k2 t2=>⟨rfl,Tw (by decide) ⟨rfl,Tw (by decide) ⟨rfl,Tw (by decide) ⟨rfl,Tw (by decide) ⟨rfl,mU rfl ?_⟩⟩⟩⟩⟩;obtain⟨dk,lk,ek⟩:=t2.rM;exact⟨⟨_,_,ek,rfl⟩,k,AS,a,b,rfl,t2.kp,q.gives k2 t2 (by cases Bw AS<;>rfl)⟩
 | @judge a b m row rs=>
  refine go (λx x_4 H1=>_) hd λH2 k2 t2=>⟨rfl,Tw (by decide) ⟨rfl,Tw (by decide) ⟨rfl,Tw (by decide) ⟨rfl,Tw (by decide) ⟨rfl,Tw (by decide) ⟨rfl,mU rfl ?_⟩⟩⟩⟩⟩⟩;have d3:=(Es (Es (Es hd).2).2).2;obtain⟨a3,d4⟩:=Es d3;refine Yt t2 a3 λH3 k3 t3=> ?_;obtain⟨dk,lk,ek⟩:=t3.rM;refine⟨⟨_,_,ek,rfl⟩,jI t3 d4 λH4 p k4 t4 e4=>⟨k,p,AS,a,b,m,row,rfl,t4.kp,e4,?_⟩⟩;have t4:aL K t H4 r dx l k ns (i+(5+row.length)) AS:=by rw[show i+(5+row.length)=i+1+1+1+1+1+row.length by lia];exact t4
  exact q.gives ((k2.trans k3).trans k4) t4 (by cases Bw AS<;>rfl)
theorem nq{row:List Int}(hb:∀z∈row,0<=z/\z<=255):iL row=Gk (bytesOf row):=by unfold iL Gk Ii bytesOf;rw[map_map,map_map];refine map_congr_left λz hz=> ?_;obtain⟨h1,h2⟩:=hb z hz;show V.int z=V.int (((UInt8.ofNat z.toNat).toNat:Nat):Int);rw[UInt8.toNat_ofNat',Nat.mod_eq_of_lt (by lia),Int.toNat_of_nonneg h1]
inductive Rx(K:Frag)(t:Bz)(vs:List V)(H:Hp)(Q:VK)(E:XK):Prop | mk:∀(r dx l k:Addr) (ns:List Int) (i n:Nat) (AS:List Rec) (c:Valayc.Call),vs=[.ref r,.ref k]->aL K t H r dx l k ns i AS->Cz (ns.drop i) c n->dG K t H Q r dx l k ns (i+n) AS c->Rx K t vs H Q E
theorem dG.kp{r dx l k:Addr}{ns:List Int}{j:Nat}{AS:List Rec}{c:Valayc.Call}{H1:Hp}(q:dG K t H Q r dx l k ns j AS c){o:HO}(kk:Kp r H H1)(hr:H1 r=some o):dG K t H1 Q r dx l k ns j AS c:=
 λH' p recs' n kp=>q H' p recs' (Kp.free kk hr n) λb o b1 b2 b3 e=>kp b o b1 b2 b3 (kk b o b1 e)
theorem aG(BM:OM mg AJ):FT P w AJ T 99 t.Mp t.Mq ["reader","keeper"] (Rx K t):=by
 refine T.NM.Cr Ra ?_;rintro _ A _ s H _ Q E hr ⟨r,dx,l,k,ns,i,n,AS,c,rfl,tw,hc,q⟩;have nd:=Ra.nd;refine⟨_,(AD (ps_sl 2 nd (Ad (pv 0) T.Bk T.Bo (Bi T) hr.lt (Bp T) .nil AK))
   (AD (Ay (AU B3 (pv 2) (A9 T.vi) (AY _)) (AH (AO (Ac (pv 1) T.BB T.aa (aD T) hr.lt (bC T) .nil AK (AB (Ad (pv 0) T.Bk T.HL (GP T) hr.lt (HU T) .nil AK) AE)))) AX)
   (AD (Ay (AU B3 (pv 2) (A9 T.si) (AY _)) (AH (AO (Ac (pv 1) T.BB T.Zo (X4 T BM) hr.lt (Zu T) .nil AK (AB (Ad (pv 0) T.Bk T.Bo (Bi T) hr.lt (Bp T) .nil AK) AE)))) AX)
   (AH (AO (AV (Sg T BM) hr.lt rfl T.UL T.GG.kp (UN T) .nil AK (AB (pv 2) (AB (pv 0) (AB (pv 1) AE))))))))),?_⟩
 walk_at "rd";obtain⟨z,rest,hd⟩:∃z rest,ns.drop i=z::rest:=by cases hl:ns.drop i with
  |nil=>rw[hl] at hc;cases hc
  |cons z rest=>exact⟨z,rest,rfl⟩
 rw[hd] at hc;obtain⟨a0,d1⟩:=Es hd;refine Yt tw a0 λH1 k1 t1=>⟨rfl,Az (λz0=> ?_) λz0=>⟨rfl,Az (λz7=> ?_) λz7=> ?_⟩⟩
 ·have z0:=V.int.inj z0;subst z0;cases hc with
  | @load row rs hb hl=>
   obtain⟨dk,lk,ek⟩:=t1.rM;refine⟨⟨_,_,ek,rfl⟩,jI t1 d1 λH2 p k2 t2 e2=> ?_⟩;rw[nq hb] at e2;refine⟨k,p,AS,_,rfl,t2.kp,A4.of e2,by unfold bytesOf;rw[length_map];exact hl,λH3 p3 recs' n3 k3 kp3 ho e3=> ?_⟩;obtain⟨dk2,lk2,ek2⟩:=t2.rM;refine q H3 p3 recs' (Kp.free (k1.trans k2) t2.rd.at_ n3) (λb o b1 b2 _ e=>k3 b o b2 (k2 b o b1 (k1 b o b1 e))) ⟨?_,kp3,Tab.kp t2.tb k3 ek2⟩ ho e3;rw[show i+(2+row.length)=i+1+1+row.length by lia];have rr:=t2.rd;have nrk:r≠k:=λz=>by rw[<-z] at ek2;have e:=ek2.symm.trans rr.at_;have e2:=congrArg List.length (HO.ins.inj (Option.some.inj e)).2.2;simp[n8] at e2
   refine⟨k3 _ _ nrk rr.at_,?_⟩;rcases rr.sq with(h | ⟨o,h⟩) | h
   ·exact .inl (.inl (k3 _ _ (λz=>by rw[z,ek2] at h;cases h) h))
   ·exact .inl (.inr ⟨o,k3 _ _ (λz=>by rw[z,ek2] at h;cases h) h⟩)
   ·exact .inr h
 ·have z7:=V.int.inj z7;subst z7;cases hc with
  | @table a rs=>obtain⟨dk,lk,ek⟩:=t1.rM;obtain⟨a1,_⟩:=Es d1;refine⟨⟨_,_,ek,rfl⟩,Yt t1 a1 λH2 k2 t2=>⟨k,AS,a,rfl,t2.kp,t2.tb,q.jJ (k1.trans k2) t2 (by cases Bw AS<;>rfl)⟩⟩
 ·exact⟨r,dx,l,k,ns,i,n,AS,z,c,rest,rfl,t1,hd,hc,λe=>z0 (by rw[e]),λe=>z7 (by rw[e]),q.kp k1 t1.rd.at_⟩
end
inductive OX:List Int->List Valayc.Call->Prop
 |nil:OX [] []
 |cons {l:List Int} {c:Valayc.Call} {n:Nat} {cs:List Valayc.Call}:Cz l c n->OX (l.drop n) cs->OX l (c::cs)
def Hs:Valayc.Obj->List Valayc.Call->List Int
 |_,[]=> []
 |s,c::cs=>((ValaycNeutral.encode (Valayc.step s c).2).length:Int)::(ValaycNeutral.encode (Valayc.step s c).2++Hs (Valayc.step s c).1 cs)
theorem tJ{l x:List Int}(h:PyFlat.row l=some (x,s)):l=(x.length:Int)::(x++s):=by
 cases l with
 |nil=>cases h
 |cons n r=>
  simp only[PyFlat.row] at h;split at h
  ·rename_i c;obtain⟨rfl,rfl⟩:=Prod.mk.inj (Option.some.inj h);rw[length_take,min_eq_left c.2,Int.toNat_of_nonneg c.1,List.take_append_drop]
  ·cases h
theorem rows0{l:List Int}{xs:List (List Int)}(h:PyFlat.rows 0 l=some (xs,s)):xs=[]/\l=s:=by simp only[PyFlat.rows] at h;obtain⟨rfl,rfl⟩:=Prod.mk.inj (Option.some.inj h);exact⟨rfl,rfl⟩
theorem om{l:List Int}{xs:List (List Int)}(h:PyFlat.rows 1 l=some (xs,s)):∃x,xs=[x]/\l=(x.length:Int)::(x++s):=by
 simp only[PyFlat.rows] at h;cases e:PyFlat.row l with
 |none=>rw[e] at h;cases h
 |some p=>obtain⟨x,s1⟩:=p;rw[e] at h;have h:some ([x],s1)=some (xs,s):=h;obtain⟨rfl,rfl⟩:=Prod.mk.inj (Option.some.inj h);exact⟨x,rfl,tJ e⟩
theorem rB{p:Int}{r:List Int}{c:List (List Int)}(h:PyFlat.call PyValayc.shape (p::r)=some (c,s)):∃n k xs,PyValayc.shape p=some (n,k)/\n<=r.length/\PyFlat.rows k (r.drop n)=some (xs,s)/\c=(p::r.take n)::xs:=by
 simp only[PyFlat.call] at h;cases e:PyValayc.shape p with
 |none=>rw[e] at h;cases h
 |some q=>
  obtain⟨n,k⟩:=q;rw[e] at h;simp only at h;split at h
  ·cases h
  ·rename_i c1;cases e2:PyFlat.rows k (r.drop n) with
   |none=>rw[e2] at h;cases h
   |some q=>obtain⟨xs,s1⟩:=q;rw[e2] at h;simp only at h;obtain⟨rfl,rfl⟩:=Prod.mk.inj (Option.some.inj h);exact⟨n,k,xs,rfl,by lia,e2,rfl⟩
theorem Yu{r:List Int}(h:2<=r.length):∃a b s,r=a::b::s:=by
 match r,h with
 |a::b::s,_=>exact⟨a,b,s,rfl⟩
theorem rC{r:List Int}(h:3<=r.length):∃a b c s,r=a::b::c::s:=by
 match r,h with
 |a::b::c::s,_=>exact⟨a,b,c,s,rfl⟩
theorem wW{r:List Int}(h:1<=r.length):∃a s,r=a::s:=by
 match r,h with
 |a::s,_=>exact⟨a,s,rfl⟩
theorem ZA{row:List Int}(h:n=row.length):(row++s).drop n=s:=by rw[h,List.drop_left]
theorem tK{l:List Int}{raw:List (List Int)}(h:PyFlat.call PyValayc.shape l=some (raw,s))(ha:asked1 (PyValayc.whole raw)=true):∃c n,Cz l c n/\s=l.drop n/\callOf (PyValayc.whole raw)=some c:=by
 cases l with
 |nil=>cases h
 |cons p r=>
  obtain⟨n,k,xs,e1,e2,e3,rfl⟩:=rB h;unfold PyValayc.shape at e1;split at e1
  ·rename_i z;subst z;obtain⟨rfl,rfl⟩:=Prod.mk.inj (Option.some.inj e1);obtain⟨x,rfl,e4⟩:=om e3;rw[List.drop_zero] at e4;subst e4;have hb:∀z∈x,0<=z/\z<=255:=by
    have h1:(x.all (λ(z:Int)=>natural z 8))=true:=(Bool.and_eq_true_iff.mp (show (x.all (λ(z:Int)=>natural z 8) && decide (x.length<=8192))=true from ha)).1;intro z hz;have h2:=all_eq_true.mp h1 z hz;unfold natural at h2;have h3:=Bool.and_eq_true_iff.mp h2;have h4:=of_decide_eq_true h3.1;have h5:=of_decide_eq_true h3.2;have e8:(2:Int) ^ 8=256:=rfl;rw[e8] at h5
    lia
   have hl:x.length<=8192:=of_decide_eq_true (Bool.and_eq_true_iff.mp (show (x.all (λ(z:Int)=>natural z 8) && decide (x.length<=8192))=true from ha)).2;refine⟨_,_,Cz.load hb hl,?_,?_⟩
   ·rw[add_comm 2];show s=(x++s).drop x.length;rw[ZA rfl]
   ·show (if NeutralIO.bytes x=true then _ else _)=_;rw[if_pos];unfold NeutralIO.bytes;exact all_eq_true.mpr λz hz=>Bool.and_eq_true_iff.mpr ⟨decide_eq_true (hb z hz).1,decide_eq_true (hb z hz).2⟩
  split at e1
  ·rename_i z;subst z;obtain⟨rfl,rfl⟩:=Prod.mk.inj (Option.some.inj e1);obtain⟨a,b,r',rfl⟩:=Yu e2;obtain⟨x,rfl,e4⟩:=om e3;have e4:r'=_:=e4;subst e4;refine⟨_,_,Cz.fit,?_,rfl⟩;rw[add_comm 4];show s=(x++s).drop x.length;rw[ZA rfl]
  split at e1
  ·rename_i z;subst z;obtain⟨rfl,rfl⟩:=Prod.mk.inj (Option.some.inj e1);obtain⟨a,b,r',rfl⟩:=Yu e2;obtain⟨rfl,rfl⟩:=rows0 e3;exact⟨_,_,Cz.least,rfl,rfl⟩
  split at e1
  ·rename_i z;subst z;obtain⟨rfl,rfl⟩:=Prod.mk.inj (Option.some.inj e1);obtain⟨a,b,r',rfl⟩:=Yu e2;obtain⟨rfl,rfl⟩:=rows0 e3;exact⟨_,_,Cz.rule,rfl,rfl⟩
  split at e1
  ·rename_i z;subst z;obtain⟨rfl,rfl⟩:=Prod.mk.inj (Option.some.inj e1);obtain⟨a,b,r',rfl⟩:=Yu e2;obtain⟨rfl,rfl⟩:=rows0 e3;exact⟨_,_,Cz.waste,rfl,rfl⟩
  split at e1
  ·rename_i z;subst z;obtain⟨rfl,rfl⟩:=Prod.mk.inj (Option.some.inj e1);obtain⟨a,b,r',rfl⟩:=Yu e2;obtain⟨rfl,rfl⟩:=rows0 e3;exact⟨_,_,Cz.orders,rfl,rfl⟩
  split at e1
  ·rename_i z;subst z;obtain⟨rfl,rfl⟩:=Prod.mk.inj (Option.some.inj e1);obtain⟨a,b,c,r',rfl⟩:=rC e2;obtain⟨x,rfl,e4⟩:=om e3;have e4:r'=_:=e4;subst e4;refine⟨_,_,Cz.judge,?_,rfl⟩;rw[add_comm 5];show s=(x++s).drop x.length;rw[ZA rfl]
  split at e1
  ·rename_i z;subst z;obtain⟨rfl,rfl⟩:=Prod.mk.inj (Option.some.inj e1);obtain⟨a,r',rfl⟩:=wW e2;obtain⟨rfl,rfl⟩:=rows0 e3;exact⟨_,_,Cz.table,rfl,rfl⟩
  ·cases e1
theorem gn:∀(f:Nat) (l:List Int) (raw:List (List (List Int))),PyFlat.calls PyValayc.shape f l=some raw->((raw.map PyValayc.whole).all asked1)=true->
  ∃cs,OX l cs/\∀s,PyFlat.told (PyFlat.played ValaycNeutral.step s (raw.map PyValayc.whole))=Hs s cs
 |_,[],raw,h,_=>by
  have h:some []=some raw:=by rw[<-h];unfold PyFlat.calls;rfl
  cases h;exact⟨[],.nil,λ_=>rfl⟩
 | 0,_::_,raw,h,_=>by cases h
 |f+1,p::r,raw,h,ha=>by
  simp only[PyFlat.calls] at h;cases e:PyFlat.call PyValayc.shape (p::r) with
  |none=>rw[e] at h;cases h
  |some q=>
   obtain⟨c,s⟩:=q;rw[e] at h;simp only at h;cases e2:PyFlat.calls PyValayc.shape f s with
   |none=>rw[e2] at h;cases h
   |some rs=>
    rw[e2] at h;have h:some (c::rs)=some raw:=h;cases h;rw[map_cons,all_cons,Bool.and_eq_true_iff] at ha;obtain⟨k,n,h1,rfl,h3⟩:=tK e ha.1;obtain⟨cs,h4,h5⟩:=gn f _ rs e2 ha.2;refine⟨k::cs,.cons h1 h4,λs=> ?_⟩;rw[map_cons];have es:ValaycNeutral.step s (PyValayc.whole c)=((Valayc.step s k).1,ValaycNeutral.encode (Valayc.step s k).2):=by unfold ValaycNeutral.step;rw[h3]
    show PyFlat.told ((ValaycNeutral.step s (PyValayc.whole c)).2::PyFlat.played ValaycNeutral.step (ValaycNeutral.step s (PyValayc.whole c)).1 (rs.map PyValayc.whole))=_;rw[es];show _::_++PyFlat.told (PyFlat.played ValaycNeutral.step (Valayc.step s k).1 (rs.map PyValayc.whole))=_;rw[h5];rfl
theorem iO{l:List Int}(h:PyValayc.answers_asked l=true):∃cs,OX l cs/\PyValayc.answers l=Hs none cs/\(Hs none cs).length<=10000000:=by
 unfold PyValayc.answers_asked at h;cases e:PyFlat.calls PyValayc.shape l.length l with
 |none=>rw[e] at h;cases h
 |some raw=>
  rw[e] at h;simp only[Bool.and_eq_true] at h;obtain⟨⟨⟨_,_⟩,h1⟩,h2⟩:=h;unfold ValaycNeutral.asked at h1;obtain⟨cs,h3,h4⟩:=gn _ _ _ e (Bool.and_eq_true_iff.mp h1).1;have ea:PyValayc.answers l=Hs none cs:=by unfold PyValayc.answers PyValayc.calls;rw[e];exact h4 none
  refine⟨cs,h3,ea,?_⟩;rw[<-ea];exact of_decide_eq_true h2
section
theorem Zi{l:List Int}{c:Valayc.Call}(h:Cz l c n):0<n/\n<=l.length:=by
 cases h<;>simp<;>lia
theorem tL{c:TT}{tb:TS}{D:Ends}{σ:L2.St}(W:Nat->L2.St->Hp->Prop)(m0:Nat)(h0:W m0 σ H)
  (hs:∀m σ H,W m σ H->c σ H λb H1=>if b=true then ∃N:L2.St->Hp->Prop,(∀σ' H',N σ' H'->∃m',m'<m/\W m' σ' H')/\tb {D with nx:=N,ct:=N,bk:=D.nx} σ H1 else D.nx σ H1):Yf c tb D σ H:=⟨W,⟨m0,h0⟩,hs⟩
inductive Og(K:Frag)(t:Bz)(vs:List V)(H:Hp)(Q:VK)(E:XK):Prop | mk:∀(l:Addr) (ns:List Int) (cs:List Valayc.Call),vs=[.ref l]->A4 K H l (iL ns)->Pz t H->OX ns cs->(Hs none cs).length<=10000000->(∀H' p,H' p=some (.lst (iL (Hs none cs)))->Q (.ref p) H')->Og K t vs H Q E
theorem kC(BM:OM mg AJ):FT P w AJ T 100 t.WS t.WT ["calls"] (Og K t):=by
 refine T.cf.Cr ZW ?_;rintro _ A _ s H _ Q E hr ⟨l,ns,cs,rfl,hS,tb,hc,hl,q⟩;have nd:=ZW.nd;refine⟨_,(AD (ps_sl 1 nd (CL T.qi (aE T) hr.lt rfl T.qd (bA T) .nil AK (AB (pv 0) AE)))
   (AD (ps_sl 2 nd (qB T.qj (aF T) hr.lt rfl T.qe (bB T) .nil AK))
   (AD (ps_sl 3 nd (BU AE))
   (AD (FX PassesOwn.never (Mc (Mb (Ad (pv 1) T.Bk T.Wi (V0 T) hr.lt (Wm T) .nil AK))) (AD (ps_sl 4 nd (AV (Ih.off (aG T BM)) hr.lt rfl T.aX T.NM.kp (ao T) .nil AK (AB (pv 1) (AB (pv 2) AE))))
   (AD (Au (Ua PySem.F.plainAttrs_list PySem.F.slot_list_append PySem.F.type_list_append Ht (pv 3) (AB (AZ Ak rfl T.B7 PySem.boot_len (AB (pv 4) AE)) AE)))
   (AH (Au (Ua PySem.F.plainAttrs_list PySem.F.slot_list_extend PySem.F.type_list_extend bu (pv 3) (AB (pv 4) AE)))))))
   (AH (AO (pv 3))))))),?_⟩
 walk_at "rd";refine λr dr nr ndr ner=>⟨r,dr,l,rfl,AG,rfl,?_⟩;rw[BR];have s0:=AR.new (o:=HO.own r) (u:=HO.ins t.Bn dr (n8 l 0)) nr ndr;have rd0:Xo K t (upd (upd H dr (.own r)) r (.ins t.Bn dr (n8 l 0))) r dr l ns 0:=⟨AG,s0.seq hS⟩;have tb:=Tab.same tb s0;generalize (upd (upd H dr (HO.own r)) r (HO.ins t.Bn dr (n8 l 0)))=H1 at *;refine λk dk nk ndk nek=>⟨k,dk,rfl,AG,λH2 k2 ub=>⟨rfl,zero_le _,λp np=> ?_⟩⟩;have s2:AR H1 H2:=AR.made nk ndk λb o e n=>k2 b o n e;have tw3:aL K t (OP (upd H2 p (.lst [])) p) r dr l k ns 0 []:=by rw[gC np];exact⟨rd0.mono s2,ub,Tab.same tb s2⟩
 refine tL (λm σ H'=>∃(i:Nat) (AS:List Rec) (cs':List Valayc.Call) (acc:List Int) (v:Option V),m=ns.length - i/\σ=[some (.ref l),some (.ref r),some (.ref k),some (.ref p),v]/\aL K t (OP H' p) r dr l k ns i AS/\H' p=some (.lst (iL acc))/\OX (ns.drop i) cs'/\Hs none cs=acc++Hs (Bw AS) cs'/\i<=ns.length) (ns.length - 0) ⟨0,[],cs,[],none,rfl,rfl,tw3,AG,hc,rfl,zero_le _⟩ ?_;rintro m σ H' ⟨i,AS,cs',acc,v,rfl,rfl,tw,e,hc',ht,hi⟩;walk_at "rd";refine⟨⟨_,_,lE _ _ tw.rd.at_,rfl⟩,r,dr,l,ns,i,rfl,tw.rd.mono lE,_,rfl,Az (λz=> ?_) λz=> ?_⟩
 ·have z:i≠ns.length:=by simpa using z
  generalize hd:ns.drop i=d at hc';cases hc' with
  |nil=>exact absurd (List.drop_eq_nil_iff.mp hd) (by lia)
  | @cons _ c n cs2 h1 h2=>
   subst hd;obtain⟨n0,n1⟩:=Zi h1;rw[length_drop] at n1;refine⟨_,λ_ _ h=>h,p,iL acc,e,r,dr,l,k,ns,i,n,AS,c,rfl,tw,h1,λH3 p3 recs' np3 kk tw4 ho e3 np=> ?_⟩;have p3p:p3≠p:=λz=>by rw[z,np] at e3;cases e3
   have e5:Hs (Bw AS) (c::cs2)=((ValaycNeutral.encode (Valayc.step (Bw AS) c).2).length:Int)::(ValaycNeutral.encode (Valayc.step (Bw AS) c).2++Hs (Bw recs') cs2):=by rw[ho];rfl
   rw[e5] at ht;generalize ValaycNeutral.encode (Valayc.step (Bw AS) c).2=a3 at e3 ht;have hlen:acc.length+(a3.length+(Hs (Bw recs') cs2).length+1)<=10000000:=by rw[ht,length_append,length_cons,length_append] at hl;exact hl
   refine⟨.inl ⟨rfl,_,A4.of AG⟩,p3,rfl,_,.inl (A4.of (by rw[AM p3p];exact e3)),_,AG,?_,.inl ⟨rfl,_,A4.of AG⟩,p3,rfl,_,AG,_,by rw[AM p3p,AM p3p];exact e3,?_,ns.length - (i+n),by lia,i+n,rfl,recs',cs2,acc++((a3.length:Int)::a3),_,rfl,?_,?_,?_,?_,by lia⟩
   ·rw[length_map,sizeLine_eq];lia
   ·rw[length_append,length_map,length_map,List.length_singleton,sizeLine_eq];lia
   ·rw[BR,BR,gC np];exact tw4
   ·rw[AG];unfold iL;simp
   ·rw[<-drop_drop];exact h2
   ·rw[ht];simp
 ·have z:i=ns.length:=by simpa using z
  rw[z,drop_length] at hc';cases hc' with
  |nil=>refine q H' p ?_;rw[e,ht];simp[Hs]
  |cons h1 h2=>
   obtain⟨n0,n1⟩:=Zi h1;rw[length_nil] at n1
   lia
end
end Pr
namespace Pr
open PySem PySem.Spec PyProof.Rows L2
theorem YL{od:Option Addr}{A7:Array Value}{sl:Array (Option Value)}(l:K.lookup a=some ⟨.type "tuple",od,.seq A7 n,sl⟩)(hz:A7.size<=sizeLine)(hv:Vals xs A7.toList):iY K a xs:=⟨_,A7,n,l,rfl,rfl,hz,hv⟩
theorem all_mk{fa:Addr}(hfa:mg "answers"=some (.ref fa))(T:Txt K mg t):
  ∃fd:FuncData,(∀(s:Shared) (us:List Value),us.length=(["calls"]:List Str).length->BindsTo s fd ⟨us,[]⟩ ((["calls"]:List Str).zip us))/\∀AJ:Heap,OM mg AJ->Ih P w K mg AJ (yi P w) 100 fa fd ["calls"] (Og K t):=by
 have e:=hfa.symm.trans T.nM;cases e;refine⟨t.WT,λs us hu=> ?_,λAJ BM=>(kC T BM).zb⟩;obtain⟨oc,od,kV,doc,pm,an,He,ct,osl,e,_⟩:=T.cf.ex;rw[e]
 match us,hu with
 | [_],_=>exact .of_eq rfl
theorem wX{l:List Int}{R:V->Hp->Prop}(hask:PyValayc.answers_asked l=true)(hx:QE K H xs [.list (l.map .int)])(hn:H t.NW=none)(hq:∀H' p,H' p=some (.lst ((PyValayc.answers l).map V.int))->R (.ref p) H'):Og K t xs (upd H t.NW (.YM #[])) R λ_ _ _=>False:=by
 obtain⟨cs,h1,h2,h3⟩:=iO hask;cases hx with
 |cons h4 h5=>
  cases h5;cases h4 with
  |lst hs ha=>have e:=lA l _ ha;subst e;refine⟨_,l,cs,rfl,(AR.upd hn).seq hs,⟨#[],AG,trivial,.inl rfl⟩,h1,h3,λH' p e=>hq H' p ?_⟩;rw[h2];exact e
theorem rD{mb:Str->Option Value}{CX:fJ}{k:Nat}{fa c0 P0:Addr}{sp:Sp}{s1:Shared}{vals:List Value}{ds:List PySem.W.WData}{R:WRecords}{cl:Str->Option Addr}{d0:PySem.W.WData}
  (KX:K.In s1.heap) (hns:s1.heap.Ns mainGlobals mg) (hb:s1.heap.Ns builtinsNs mb) (hbb:∀x:Str,x≠ "__name__"->mb x=bootBuiltins x) (hlim:s1.heap.NoLimit) (hg:s1.gens=#[]) (BM:OM mg s1.heap) (CD:CodeHd s1.heap c0 P0) (hP:s1.heap.get? P0=some (tabObj #[])) (hPK:K.lookup P0=none)
  (hwl:PySem.W.WellAll w.params s1.heap vals ds) (hpl:Xm ds=true) (hwt:∀d∈ds,d.weight<=1048576) (hr:Dc k callerA)
  (F:∀AJ:Heap,OM mg AJ->Ih P w K mg AJ CX k fa fd ps sp) (hbind:∀(s:Shared) (us:List Value),us.length=ps.length->BindsTo s fd ⟨us,[]⟩ (ps.zip us)) (hlen:ds.length=ps.length)
  (hsp:∀(H:Hp) (xs:List V),H P0=none->QE K H xs ds->sp xs (upd H P0 (.YM #[])) (λv H'=>Dw K H' v d0) λ_ _ _=>False)
  (hCX:∀H e s',CX [] H s1 (λ_ _ _=>False) e s'->False):
  codeAny (model P w) callerA (.call (.ref fa) ⟨vals,[]⟩) (λr s'=>∃u as,r= .ok (.ret u)/\PySem.W.ReadsW R cl s'.heap u d0 as/\OldK s1.heap s'.heap/\s'.os=s1.os/\AllBare s'.gens) s1:=by
 obtain⟨A,ho,ar⟩:=Ut ds vals hwl hpl hwt;have hO:uG (Pu K s1.heap A):=mn ar;have hok0:Ma P w (Pu K s1.heap A) s1.heap:=sH ar;have hS:=dJ KX ar ds vals hwl hpl ho;have hV:=Nf ho;have hK0:∀b u,Pu K s1.heap A b=some u->K.lookup b=none:=λb u q=>(X9 ar q).1;have hseq:∀b u,Pu K s1.heap A b=some u->∃o vs n,s1.heap.get? b=some o/\o.data= .seq vs n:=λb u q=>by obtain⟨_,vs,_,_,⟨e2,_⟩ | ⟨e2,_⟩⟩:=X9 ar q<;>exact⟨_,_,_,e2,rfl⟩
 generalize Pu K s1.heap A=H0 at hO hok0 hS hK0 hseq;have noS:∀{b:Addr} {o:Obj},s1.heap.get? b=some o->(∀vs n,o.data≠ .seq vs n)->H0 b=none:=λ{b o} e d=>by
  cases q:H0 b with
  |none=>rfl
  |some u=>obtain⟨o2,vs,n,e2,d2⟩:=hseq b u q;rw[e] at e2;cases e2;exact absurd d2 (d vs n)
 have n0:H0 P0=none:=noS hP (λ_ _ z=>by cases z);have sm:AR H0 (upd H0 P0 (.YM #[])):=AR.upd n0;have BL:Ma P w (upd H0 P0 (.YM #[])) s1.heap:=λb u q=>by
  by_cases z:b=P0
  ·subst z;rw[AG] at q;cases q;exact hP
  ·rw[AM z] at q;exact(hok0 b u q).SU (λ_ _ _ q=>q) (λ_ q=>sm _ _ q) λ_ _ q=>sm _ _ q
 have hK:∀b u,(upd H0 P0 (.YM #[])) b=some u->K.lookup b=none:=λb u q=>by
  by_cases z:b=P0
  ·rw[z];exact hPK
  ·rw[AM z] at q;exact hK0 b u q
 have noA:∀{b:Addr} {o:Obj},s1.heap.get? b=some o->(∀vs n,o.data≠ .seq vs n)->(∀vs,o.data≠ .fields vs)->(upd H0 P0 (.YM #[])) b=none:=λ{b o} e d1 d2=>by rw[AM (λz=>by rw[z,hP] at e;cases e;exact d2 _ rfl)];exact noS e d1
 generalize eH:(upd H0 P0 (.YM #[]))=H at sm BL hK noA;have hH0:H P0=some (.YM #[]):=by rw[<-eH];exact AG
 have base_of:∀{b:Addr} {o:Obj},s1.heap.get? b=some o->H b=none->(aN s1.heap H).get? b=some o:=λe n=>pb e n;have nsK:∀{b:Addr} {m:Str->Option Value},s1.heap.Ns b m->(aN s1.heap H).Ns b m:=λ{b m} ⟨o,es,ep,e,d,r⟩=>⟨o,es,ep,base_of e (noA e (λ_ _ z=>by rw[d] at z;cases z) λ_ z=>by rw[d] at z;cases z),d,r⟩;have hKb:K.In (aN s1.heap H):=λb o e=>base_of (KX b o e) (by
  cases q:H b with
  |none=>rfl
  |some u=>rw[hK b u q] at e;cases e)
 have hM:Mod K mg (aN s1.heap H):=⟨hKb,nsK hns,⟨mb,nsK hb,hbb⟩,let ⟨mc,h1,h2⟩:=hlim;⟨mc,nsK h1,h2⟩⟩;have e0:V4 P w K mg (aN s1.heap H) callerA [] s1 H:=⟨rfl,hM,λb o e=>rZ e,le_of_eq (mX _ _),trivial,λb hb=>absurd (show b∈([]:List Addr) from hb) (by simp),BL,.of_eq hg⟩;have hl:vals.length=ps.length:=by rw[Lx hwl];exact hlen
 have BMb:OM mg (aN s1.heap H):=let ⟨bm,ob,b1,b2,b3,b4,b5,b6⟩:=BM;⟨bm,ob,b1,b2,base_of b3 (noA b3 (λ_ _ z=>by rw[b6] at z;cases z) λ_ z=>by rw[b6] at z;cases z),b4,b5,b6⟩;refine codeAny_mono ((F _ BMb).run callerA [] s1 H ⟨vals,[]⟩ vals (vals.map toV) _ _ hr e0 (hbind s1 vals hl) hV (by rw[<-eH];exact hsp H0 _ n0 hS)) λr s' x=> ?_;cases r with
 |error e=>exact(hCX H e s' x).elim
 |ok fl=>
  cases fl with
  |next=>exact False.elim x
  |brk=>exact False.elim x
  |cont=>exact False.elim x
  |ret u=>
   obtain⟨v,H',os,bare,un,hok',r',q⟩:=x;have kept:∀b o,b≠P0->s1.heap.get? b=some o->s'.heap.get? b=some o:=λb o nb e=>by
    cases q2:H b with
    |none=>exact un.keep b o e q2 (by intro z;exact absurd (show b∈([]:List Addr) from z) (by simp)) (by simp)
    |some u2=>
     have q3:H0 b=some u2:=by rw[<-eH,AM nb] at q2;exact q2
     rcases hO b with z | ⟨ob,u3,z⟩
     ·rw[q3] at z;cases z
     ·have z1:=sm _ _ z;have z2:=un.Xj b ob _ z1;obtain⟨e1,_⟩:=BL b _ z1;obtain⟨e2,_⟩:=hok' b _ z2;rw[e] at e1;cases e1;exact e2
   obtain⟨more,z3⟩:=un.Xk P0 #[] hH0;have gr:s'.heap.get? P0=some {cls:= .none,data:= .fields (#[]++more)}:=hok' P0 _ z3;have KX':K.In s'.heap:=λb o e=>kept b o (λz=>by rw[z,hPK] at e;cases e) (KX b o e);obtain⟨as,hrd⟩:=Dw.reads (R:=R) (cl:=cl) hok' KX' d0 v u q r';refine⟨u,as,rfl,hrd,⟨λb o e=> ?_,λb o e=> ?_⟩,os,bare⟩
   ·by_cases z:b=P0
    ·subst z;rw[hP] at e;cases e;exact .inr (.inl ⟨(CD.tab hP).isCodeTable,rfl,#[],more,rfl,gr⟩)
    ·exact .inl (kept b o z e)
   ·by_cases z:b=P0
    ·subst z;exact⟨_,gr⟩
    ·exact⟨o,kept b o z e⟩
theorem nt{q:Program}{loose:List Str}{XP:(Str->Option Value)->Heap->Prop}{YP:World->Heap->Prop}{d d2:DefRec}{K:Params->Frag}(hd:d.name= "answers")(hY:∀(w:World) (h:Heap),YP w h->(K w.params).In h)(hf:(recsOf q).find? (λe=>e.name==("rule_order":Str))=some d2)
  (F:∀(w:World) (mg:Str->Option Value) (h:Heap),(K w.params).In h->h.Ns mainGlobals mg->∃t:Bz,Txt (K w.params) mg t):WalkOS q loose XP YP PySem.Challenge.rw_leastroom_s01_answers d [] (λf vs=>PySem.call f vs):=by
 intro w Kc s1 mg mb G Y fa o pm cd doc dV kV ho hdd hcd hD hmg hg args vals as hpre hlay hrd hwl hlo;obtain⟨a,e1,e2⟩:=PySem.W.os_pre_some hpre;obtain⟨e3,hwi⟩:=PySem.W.Codec.encAll_of_decAll PySem.Challenge.rw_leastroom_s01_answers.args args a e1;subst e3;have KX:=hY w _ Y;obtain⟨t,T⟩:=F w mg _ KX G.T.g;obtain⟨fd,hb,hF⟩:=all_mk (P:=PySem.Challenge.rw_leastroom_s01_answers.prog) (w:=w) (by rw[<-hd];exact hmg) T;obtain⟨CH,hP⟩:=tab_of G.T KX hf T.TB;refine PySem.W.enter_call (codeAny_mono (rD (R:=[]) (cl:=classAt Kc.heap) (d0:=PySem.Challenge.rw_leastroom_s01_answers.ret.enc (PySem.W.Codec.app PySem.Challenge.rw_leastroom_s01_answers.args PySem.Challenge.rw_leastroom_s01_answers.f a)) KX G.T.g G.T.b G.T.builtins G.T.nolimit hg G.T.bmain CH hP T.NP hwl (b9 _ _) (Zk hlay) ⟨rfl,by decide,by decide⟩ hF hb (by rw[ZF];rfl)
  (λH xs hn hS=>wX e2 hS hn λH' p e=> .lst (A4.of e) (k9 _)) λH e s' z=>yA z) λr' s' hq=> ?_)
 obtain⟨u,as',rfl,h1,h2,h3,h4⟩:=hq;exact⟨.inl ⟨u,_,as',rfl,λ_=>rfl,h1,(PySem.W.OpenSpec.post_iff u6 hwi _ _).mpr rfl,λz=>Bool.noConfusion (show false=true from z)⟩,h2,h3,h4⟩
theorem yQ{a0 a1 a2 a3 a4 a5 a6 a7 a8 a9 a10 a11 a12 a13 a14 a15 a16 a17 a18 a19 a20 a21 a22 a23 a24 a25 a26 a27 a28 a29 a30 a31 a32 a33 a34 a35 a36 a37 a38 a39 a40 a41 a42 a43 a44 a45 a46 a47 a48 a49 a50 a51 a52 a53 a54 a55 a56 a57 a58 a59 a60 a61 a62 a63 a64 a65 a66 a67 a68 a69 a70 a71 a72 a73 a74 a75 a76 a77 a78 a79 a80 a81 a82 a83 a84 a85 a86 a87 a88 a89 a90 a91 a92 a93 a94 a95 a96 a97 a98 a99 a100 a101 a102 a103 a104 a105 a106 a107 a108 a109 a110 a111 a112 a113 a114 a115 a116 a117 a118 a119 a120 a121 a122 a123 a124 a125 a126 a127 a128 a129 a130:Addr}{d0 d1 d2 d3 d4 d5 d6 d7 d8 d9 d10 d11 d12 d13 d14 d15 d16 d17 d18 d19 d20 d21 d22 d23 d24 d25 d26 d27 d28 d29 d30 d31 d32 d33 d34 d35 d36 d37 d38 d39 d40 d41 d42 d43 d44 d45 d46 d47 d48 d49 d50 d51 d52 d53 d54 d55 d56 d57 d58 d59 d60 d61 d62 d63 d64 d65 d66 d67 d68 d69 d70 d71 d72 d73 d74 d75 d76 d77 d78 d79 d80 d81 d82 d83 d84 d85 d86 d87 d88 d89 d90 d91 d92 d93 d94 d95 d96 d97 d98 d99 d100 d101 d102 d103 d104 d105 d106 d107 d108 d109 d110:FuncData}(T:Txt K mg ⟨a0,a1,a2,a3,a4,a5,a6,a7,a8,a9,a10,a11,a12,a13,a14,d0,a15,d1,a16,d2,a17,d3,a18,d4,a19,d5,a20,d6,a21,d7,a22,d8,a23,d9,a24,d10,a25,d11,a26,d12,a27,d13,a28,d14,a29,d15,a30,d16,a31,d17,a32,d18,a33,d19,a34,d20,a35,d21,a36,d22,a37,d23,a38,d24,a39,d25,a40,d26,a41,d27,a42,d28,a43,d29,a44,d30,a45,d31,a46,d32,a47,d33,a48,d34,a49,d35,a50,d36,a51,d37,a52,d38,a53,d39,a54,d40,a55,d41,a56,d42,a57,d43,a58,d44,a59,d45,a60,d46,a61,d47,a62,d48,a63,d49,a64,d50,a65,d51,a66,d52,a67,d53,a68,d54,a69,d55,a70,d56,a71,d57,a72,d58,a73,d59,a74,d60,a75,d61,a76,d62,a77,d63,a78,d64,a79,d65,a80,d66,a81,d67,a82,d68,a83,d69,a84,d70,a85,d71,a86,d72,a87,d73,a88,d74,a89,d75,a90,d76,a91,d77,a92,d78,a93,d79,a94,d80,a95,d81,a96,d82,a97,d83,a98,d84,a99,d85,a100,d86,a101,d87,a102,d88,a103,d89,a104,d90,a105,d91,a106,d92,a107,d93,a108,d94,a109,d95,a110,d96,a111,d97,a112,d98,a113,d99,a114,d100,a115,d101,a116,d102,a117,d103,a118,d104,a119,d105,a120,d106,a121,d107,a122,d108,a123,d109,a124,d110,a125,a126,a127,a128,a129,a130⟩):∃t,Txt K mg t:=⟨_,T⟩
end Pr
end
end Lake
open Lake
open PySem PySem.W PyProof.Rows
structure PySem.W.Fast:Prop where (tw9884436455458086727 tw9995390597620908828 tw16795648250988668439 tw16811170723618825583 tw2183142445199521387 tw11103962475367324033 tw11083685107873923171 tw8429078520340778695 tw2778477189201974252 tw11441235443699795090 tw18218132375719229063 tw12317501981524331611 tw15027519968557796539 tw16301500365633159339 tw8299771892576742676 tw6976837299183808031 tw17320415376359289816 tw14386540789767712810 tw13834945810690830863 tw13023252044393426174 tw2010031057099913330 tw16503039287572981698 tw5677346268066374496 tw2115962288016109760 tw15783020544099076228 tw15489722186332797699 tw12489370163998227880 tw15924044449767968479 tw11320871304679053947 tw8687998053997327660 tw18018508549550270476 tw11242385834416004151 tw2587214313581467761 tw10930498425890509623 tw9306859010739496435 tw9052989531086734509 tw9546352977710072468 tw15945431340087483100 tw591334975658906392 tw1514685378233252214 tw10789111056038741079 tw1463143595168713813 tw9391541112621333578 tw1358105289393359908 tw12146587609409434704 tw12848917424555229413 tw18170815976799242363 tw2284509529091022629 tw689477508815408715 tw4169984901596510017 tw11698394254244459745 tw6170576379100858769 tw6583009091285286148 tw4057513076721279552 tw8347633551821541917 tw49261604419562167 tw15333949653567739294 tw3678384567207782980 tw13038841364211284969 tw9120261630807388294 tw542274664719623326 tw16688616374829586040 tw5362421205245942299 tw1996868264080681430 tw14074652107650968631 tw6888550210225839943 tw15501275307400460631 tw6026746926723410779 tw14843365760540883316 tw2985064541379058890 tw4623385436515776750 tw13000307855203005534 tw5924858823125748053 tw4665355700820745591 tw2333635927825948313 tw13387647531201472769 tw12294322172314868018 tw9780604428773756541 tw18205577136102961357 tw9598705170997314536 tw16484199800689103430 tw13812312352806413122 tw5874452372253154339 tw870163968034408030 tw2390449248823032676 tw1182351091620132923 tw6550487599146893792 tw12179413986296451266 tw11405486293974400698 tw11658601191279615147 tw2895293332086510999 tw13708887210422737481 tw17077692124116305064 tw8226667126865920133 tw10496096067122132095 tw122176682481656644 tw6798417475405168390 tw1917091717787487844 tw9190898853687398462 tw4468321430252516370 tw6861501732889306544 tw13809590709611223010 tw9184672767369526857 tw4120348535103404705 tw5844808297373486496 tw6565417318184242490 tw5494054782517501873 tw11324419401676223191 tw8472584961789530261 tw12399940866652696957 tw12852483308642131529 tw11509161953411448608 tw3970945385552042918 tw17148464262273686379 tw4142604943605522062 tw11577647061831123559 tw8123137481948250205 tw7152967476015514646 tw3566943124701964337 tw17580558976488183667 tw3007792279865508252 tw5514847179917455685 tw7917568477840091588 tw6653641101446644366 tw16205619473098383794 tw2255365323848691797 tw1354055748761370030 tw5596409741867426985 tw14044272514114762929 tw992708693600787418 tw10510532802089120160 tw7019247244508178487 tw8442373275804762692 tw16056355317618215801 tw13635894572055862621 tw17965493174556045144 tw10622994137355307197 tw18166027228169707298 tw10179676323500897352 tw10858055616778305814 tw14909094399415376306 tw10188889042206376232 tw10708698813343544410 tw16877846413089321919 tw18284419111535340240 tw8405681348020638068 tw3692918346650518624 tw15649797941990367296 tw13441020668180781407 tw4281622870408102454 tw1726647943467980210 tw8009764212377818020 tw12571298512977229379 tw12873940131627186058 tw10466657736196728476 tw3875388318863474222 tw790873587222087204 tw12015857699378120727 tw7220161394402559067 tw14558808588767834724 tw6694369889170485379 tw12898567885941940789 tw14968922540650294226 tw6435691894278810283 tw11877120839127307507 tw4431491066216709143 tw2271378551057187782 tw6471774231584953642 tw7063341522026189505 tw17180391664259796493 tw2331463339934062983 tw3269668287790117862 tw4490712220525048384 tw13094939247764570087 tw11124639541448239123 tw3663453324978695006 tw12448360572562583948 tw8110908068934272802 tw7285056971946398643 tw8677169256723676886 tw15960115796216748700 tw60806654558399286 tw12693553085217598000 tw3834421276910005637 tw3343801841409960444 tw7673921850876474740 tw18236338572951610271 tw2861066503272273446 tw9991158788420880446 tw13963464498443210561 tw12297810653346068272 tw11476002518046008632 tw8437910478376678770 tw6077419819020835987 tw11142070773405052938 tw18329610610876266795 tw10029349340744555271 tw3373678291066155809 tw18227751999408167725 tw15697028509723993301 tw13555379364686610263 tw16517715738920086657 tw9269422751616023509 tw12538864400475288683 tw14631836422256202004 tw11918525585990044440 tw14928824221204395930 tw12675381954023807360 tw426974694319434719 tw10681988689096309373 tw8067201064999658739 tw7838563204941262402 tw17792114246321647162 tw9604638209552379780 tw18270378972339741200 tw12692731047737650144 tw1771108033664138697 tw10198721550387869700 tw16243633413096096208 tw268664767111970324 tw7944980540302208233 tw3483553154209302401 tw4739651943965180952 tw6383720339879054408 tw12490756105554292137 tw4219529246772889095 tw18394466477070975268 tw4109437516383846634 tw7697008094577769516 tw7975520605611332468 tw2888194552954621693 tw918891167275480533 tw394884001901511147 tw45326205515407441 tw15620927104793252412 tw7362606454607851042 tw14488026617534564274 tw17713707002120816585 tw11403267561958824269 tw12112129781198894004 tw1791299551575909836 tw17393059218350435088 tw12198231354917982765 tw6231282778326873807 tw16047413225565718618 tw2138403592730087977 tw5010104757895090805 tw6553748879677441545 tw15718290855241688635 tw3648826705620400283 tw16275163437376535621 tw16239161672023079528 tw12407372451272681237 tw9309290075407775798 tw5055807171190381273 tw3802759338165899795 tw11518040750583490506 tw17921887647713998710 tw5019200936659060866 tw17331340444322501089 tw8391621496549480781 tw17237473688134354985 tw10928038720382736130 tw1728959129870853365 tw5142515181705037730 tw9583831745245764749 tw6769248103555409722 tw6524008012430238997 tw5768447326768044298 tw11223383546164631425 tw12932535706192977040 tw17944116871763404265 tw4593111365864230763 tw6389053494945779988 tw14296031103846695009 tw8306959189866835003 tw5237910188199455583 tw7666005393316066596 tw14518586454008071796 tw10410451687371541489 tw14312476918915342755 tw273292837855156962 tw9929673147099411971 tw8046277103215570344 tw6267845854758442503 tw7528173781647730793 tw12962999616780219436 tw17080879956421086722 tw10198514893814014532 tw652321478742128117 tw13316650460246323694 tw3590829720907850191 tw15860995616929512853 tw11090958399241572740 tw8290034318761950080 tw18393900412894720096 tw325890222767414082 tw3863387704208694655 tw16179830329311880755 tw18292746314536303060 tw12319124087618465306 tw15167335082018893912 tw824598416471118632 tw5543327681837664235 tw9729694995716127560 tw13031294627786325060 tw16036772344273544979 tw5409688137469494184 tw8741868598442889655 tw10751948812077224779 tw9731317930706658393 tw1916209922760182754 tw7321182878050313060 tw10358126747414581170 tw16386005397083971970 tw7563744076807715991 tw11561034422630163549 tw15444677736460158921 tw2722560496876436384 tw14804687836604252318 tw12138756013386591329 tw14169751518519881757 tw16160316175803653882 tw2268552692017120574 tw18374284832694506236 tw16630990330091141300 tw14883841500452033196 tw1463077945565559124 tw3326448138563540019 tw15948521423580544734 tw16539030166671212616 tw7998716349169887508 tw14796047441639256687 tw1917123252946620764 tw9834009935268561838 tw14034713093051608629 tw15088167851154073185 tw16389479416547607933 tw3750572415659032238 tw3705025868406198272 tw2827716690018008834 tw17498685478912548120 tw2976128681310784988 tw9993041885536933301 tw11478374275628906564:True)
set_option maxRecDepth 100000 in
set_option maxHeartbeats 0 in
theorem PySem.Challenge.cw_leastroom_s01_answers_holds : PySem.Challenge.rw_leastroom_s01_answers.Holds := by
 have u6:=Pr.u6
 w_on;k_headS;(case hw=>exact⟨[.list [.int 7,.int 0]],by decide+kernel,by decide+kernel⟩)
 k_fillS
 refine Pr.nt rfl (λw h Y=>kIn_of Y) rfl ?F;intro w mg h KX G;have m:=λ{n v}=> @mg_of _ h mg n v KX G;have n:=λ{n}=> @mg_none_of _ h mg n KX G;have f:= @L2.vW
 refine' Pr.yQ ⟨m _,m _,m _,m _,m _,m _,m _,m _,m _,m _,m _,m _,m _,m _,_,⟨_,_,_,_⟩,⟨_,_,_,_⟩,⟨_,_,_,_⟩,⟨_,_,_,_⟩,⟨_,_,_,_⟩,⟨_,_,_,_⟩,⟨_,_,_,_⟩,⟨_,_,_,_⟩,⟨_,_,_,_⟩,⟨_,_,_,_⟩,⟨_,_,_,_⟩,⟨_,_,_,_⟩,⟨_,_,_,_⟩,m _,m _,m _,m _,m _,m _,m _,m _,m _,m _,m _,m _,m _,m _,m _,m _,m _,m _,m _,m _,m _,m _,m _,m _,m _,m _,m _,m _,m _,m _,m _,m _,m _,m _,m _,m _,m _,m _,m _,m _,⟨_,_,_⟩,⟨_,_,_⟩,⟨_,_,_⟩,⟨_,_,_⟩,⟨_,_,_⟩,⟨_,_,_⟩,⟨_,_,_⟩,⟨_,_,_⟩,⟨_,_,_⟩,⟨_,_,_⟩,⟨_,_,_⟩,⟨_,_,_⟩,⟨_,_,_⟩,⟨_,_,_⟩,⟨_,_,_⟩,⟨_,_,_⟩,⟨_,_,_⟩,⟨_,_,_⟩,⟨_,_,_⟩,⟨_,_,_⟩,⟨_,_,_⟩,⟨_,_,_⟩,⟨_,_,_⟩,⟨_,_,_⟩,⟨_,_,_⟩,⟨_,_,_⟩,⟨_,_,_⟩,⟨_,_,_⟩,⟨_,_,_⟩,⟨_,_,_⟩,⟨_,_,_⟩,⟨_,_,_⟩,⟨_,_,_⟩,⟨_,_,_⟩,⟨_,_,_⟩,⟨_,_,_⟩,⟨_,_,_⟩,⟨_,_,_⟩,⟨_,_,_⟩,⟨_,_,_⟩,⟨_,_,_⟩,⟨_,_,_⟩,⟨_,_,_⟩,⟨_,_,_⟩,⟨_,_,_⟩,⟨_,_,_⟩,⟨_,_,_⟩,⟨_,_,_⟩,⟨_,_,_⟩,⟨_,_,_⟩,⟨_,_,_⟩,⟨_,_,_⟩,⟨_,_,_⟩,⟨_,_,_⟩,⟨_,_,_⟩,⟨_,_,_⟩,⟨_,_,_⟩,f _ _ _,f _ _ _,f _ _ _,f _ _ _,f _ _ _,f _ _ _,f _ _ _,f _ _ _,f _ _ _,f _ _ _,f _ _ _,f _ _ _,f _ _ _,f _ _ _,f _ _ _,f _ _ _,f _ _ _,f _ _ _,f _ _ _,f _ _ _,f _ _ _,f _ _ _,f _ _ _,f _ _ _,f _ _ _,f _ _ _,f _ _ _,f _ _ _,f _ _ _,f _ _ _,f _ _ _,f _ _ _,f _ _ _,f _ _ _,f _ _ _,f _ _ _,f _ _ _,f _ _ _,f _ _ _,f _ _ _,f _ _ _,f _ _ _,f _ _ _,f _ _ _,f _ _ _,f _ _ _,f _ _ _,f _ _ _,f _ _ _,f _ _ _,f _ _ _,f _ _ _,f _ _ _,f _ _ _,f _ _ _,f _ _ _,f _ _ _,f _ _ _,f _ _ _,f _ _ _,f _ _ _,f _ _ _,f _ _ _,f _ _ _,f _ _ _,f _ _ _,f _ _ _,f _ _ _,f _ _ _,f _ _ _,f _ _ _,f _ _ _,f _ _ _,f _ _ _,f _ _ _,f _ _ _,f _ _ _,f _ _ _,f _ _ _,f _ _ _,f _ _ _,f _ _ _,f _ _ _,f _ _ _,f _ _ _,f _ _ _,f _ _ _,f _ _ _,f _ _ _,f _ _ _,f _ _ _,f _ _ _,f _ _ _,f _ _ _,f _ _ _,f _ _ _,f _ _ _,f _ _ _,f _ _ _,f _ _ _,f _ _ _,f _ _ _,f _ _ _,f _ _ _,f _ _ _,f _ _ _,f _ _ _,f _ _ _,f _ _ _,f _ _ _,f _ _ _,⟨_,_,_,_⟩,_,_,_,⟨_,_,_,_⟩,_,_,_,⟨_,_,_,_⟩,_,⟨_,_,_,_⟩,_,_,⟨_,_,_,_⟩,_,_,⟨_,_,_,_⟩,_,⟨_,_,_,_⟩,_,_,_,⟨_,_,_,_⟩,_,_,_,_,⟨_,_,_,_⟩,_,_,_,⟨_,_,_,_⟩,_,_,_,⟨_,_,_,_⟩,_,_,_,_,⟨_,_,_,_⟩,_,_,⟨_,_,_,_⟩,_,?RC,L2.qO ?C1 ?C2 ?C3 ?C4 ?C5 ?C6 ?C7 ?C8,?NP,?TB,?FK,_,_,L2.Bc (m _),L2.Bc (m _),L2.Bc (m _),L2.Bc (m _),L2.Bc (m _),L2.Bc (m _),L2.Bc (m _),L2.Bc (m _),L2.Bc (m _),L2.Bc (m _),L2.Bc (m _),L2.Bc (m _),L2.Bc (m _),L2.Bc (m _),m _,Pr.YL _ ?ZRESERVED ?VRESERVED,m _,Pr.YL _ ?ZBLANKS ?VBLANKS,L2.Bc (m _),L2.Bc (m _),L2.Bc (m _),L2.Bc (m _),L2.Bc (m _),L2.Bc (m _),L2.Bc (m _),L2.Bc (m _),L2.Bc (m _),L2.Bc (m _),L2.Bc (m _),L2.Bc (m _),L2.Bc (m _),L2.Bc (m _),m _,Pr.YL _ ?ZALIGNMENTS ?VALIGNMENTS,L2.Bc (m _),L2.Bc (m _),L2.Bc (m _),L2.Bc (m _),L2.Bc (m _),L2.Bc (m _),L2.Bc (m _),L2.Bc (m _),L2.Bc (m _),L2.Bc (m _),L2.Bc (m _),L2.Bc (m _),L2.Bc (m _),L2.Bc (m _),L2.Bc (m _),m _,Pr.YL _ ?ZWORDS ?VWORDS,L2.Bc (m _),L2.Bc (m _),L2.Bc (m _),n _,n _,n _,n _,n _,n _,n _,n _,n _,n _,n _,n _,n _,n _,n _⟩
 any_goals first
  |k_is
  |(dsimp only[L2.BK];k_is)
 (case RC=>rfl);(case C1=>k_is);(case C2=>rfl);(case C3=>rfl);(case C4=>rfl);(case C5=>rfl);(case C6=>rfl);(case C7=>rfl);(case C8=>decide)
 (case NP=>kernel_rfl);(case TB=>kernel_rfl);(case FK=>kernel_rfl)
 any_goals first
  |decide
  |(repeat (first | exact PySem.Paired.nil | refine PySem.Paired.cons ⟨_,rfl⟩ ?_))
