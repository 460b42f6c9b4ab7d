import PyProof.Rows.All
import Wide.All
import OpenK.AllK
import Wide.FinOn
import Lean
import PyProof.EqAt
import PyProof.EqKinds
import PyProof.TupleCall
import PySem.Challenge.RW_outweave_k38_whole_less_never_more
set_option Elab.async false
set_option linter.all false
set_option maxRecDepth 100000
set_option maxHeartbeats 4000000
section
open PySem PyProof.Rows
abbrev za:=@wpAny_bind
abbrev zb:=@wpAny_pure
abbrev zc:=@Nat.le_refl
abbrev zd:=@List.map_cons
abbrev ze:=@decide_eq_false
abbrev zf:=@List.length_map
abbrev zg:=@List.mem_cons_self
abbrev zh:=@Bool.false_ne_true
abbrev zj:=@decide_eq_true
abbrev zk:=@Heap.lt_size
abbrev zl:=@Heap.get?_push_of_some
abbrev zm:=@Bool.and_eq_true
abbrev zn:=@List.length_append
abbrev zo:=@Nat.ne_of_lt
abbrev zp:=@List.mem_cons
abbrev zq:=@List.mem_cons_of_mem
abbrev zr:=@List.getElem?_eq_some_iff
abbrev zt:=@List.getElem?_set_ne
abbrev zu:=@List.getElem?_eq_getElem
abbrev zv:=@List.length_cons
abbrev zw:=@List.mem_singleton
abbrev zx:=@Heap.get?_push_size
abbrev zy:=@List.mem_map
abbrev zz:=@Option.some.inj
abbrev zA:=@List.size_toArray
abbrev zB:=@List.getElem?_append_left
abbrev zC:=@List.mem_append
abbrev zD:=@List.getElem?_map
abbrev zE:=@List.append_assoc
abbrev zF:=@Nat.lt_of_lt_of_le
abbrev zG:=@Nat.le_trans
abbrev zH:=@List.getElem?_append_right
abbrev zI:=@List.map_append
abbrev zJ:=@List.mem_of_getElem?
abbrev zK:=@List.nil_append
abbrev zL:=@List.map_map
abbrev zM:=@wpAny_mono
abbrev zN:=@Int.emod_nonneg
abbrev zO:=@Int.emod_lt_of_pos
abbrev zP:=@List.getElem?_set_self
abbrev zQ:=@List.map_nil
abbrev zR:=@wpAny_holding
abbrev zS:=@List.mem_append_right
abbrev zT:=@List.length_nil
abbrev zU:=@of_decide_eq_true
abbrev zV:=@Nat.zero_add
abbrev zW:=@wpAny_rule
abbrev zX:=@List.append_nil
abbrev zY:=@Nat.lt_irrefl
abbrev zZ:=@Nat.lt_succ_self
abbrev jc:=@List.length_set
abbrev jd:=@List.length_singleton
abbrev je:=@List.getD_eq_getElem?_getD
abbrev jf:=@Nat.lt_succ_of_lt
abbrev jg:=@List.nodup_append
abbrev jh:=@codeAny_builtin
abbrev ji:=@List.getElem_mem
abbrev jj:=@List.getElem?_eq_none
abbrev jk:=@Heap.get?_update_other
abbrev jl:=@wpAny_of_eq
abbrev jm:=@wpAny_updateSeq
abbrev jo:=@List.map_congr_left
abbrev jp:=@Option.map_eq_some_iff
end
namespace PySem.W.Fast
abbrev tw15075001964892324011:=()
abbrev tw8169000156797403580:=()
abbrev tw837808126837986342:=()
abbrev tw14838501125528183212:=()
abbrev tw11946539341506989066:=()
abbrev tw11585902060831340726:=()
abbrev tw12078981459672886780:=()
abbrev tw15667151045548861332:=()
abbrev tw3302266380697144828:=()
abbrev tw13437351631473275266:=()
abbrev tw3268639347396843458:=()
abbrev tw16155946324832960815:=()
abbrev tw4288421345989239258:=()
abbrev tw2641297096788364418:=()
abbrev tw1332158292926047756:=()
abbrev tw5932523947485073183:=()
abbrev tw7074041881199411537:=()
abbrev tw486113321796295868:=()
abbrev tw13372084236121723650:=()
abbrev tw1592576322019499177:=()
abbrev tw3142553434749907292:=()
abbrev tw17412505123673548648:=()
abbrev tw11292647233084652387:=()
abbrev tw9442011777393916121:=()
abbrev tw402342863338427483:=()
abbrev tw7002342039881957724:=()
abbrev tw8775227262046555387:=()
abbrev tw6107205557154398597:=()
abbrev tw1054048351976066927:=()
abbrev tw4460411115931718344:=()
abbrev tw16815205411918252848:=()
abbrev tw11860435618929080036:=()
abbrev tw1186104271692144048:=()
abbrev tw7460073997619339638:=()
abbrev tw13282478764523485406:=()
abbrev tw10533692996560140935:=()
abbrev tw8334021148022175633:=()
abbrev tw4514887601996763807:=()
abbrev tw16559934536289963757:=()
abbrev tw9990823267371877519:=()
abbrev tw16545105929442069571:=()
abbrev tw3580258812759250193:=()
abbrev tw4980048617143301878:=()
abbrev tw4407419763863131843:=()
abbrev tw13605922907877917505:=()
abbrev tw12764502388604552472:=()
abbrev tw12145181674690629576:=()
abbrev tw1753256696712361976:=()
abbrev tw4299141530519121145:=()
abbrev tw17876388852747897509:=()
abbrev tw4197063646600986168:=()
abbrev tw15306665653798162848:=()
abbrev tw11161570382137952433:=()
abbrev tw2528923461393085243:=()
abbrev tw6210550570287264286:=()
abbrev tw364156981026173637:=()
abbrev tw1214699480747730423:=()
abbrev tw7398436008413046078:=()
abbrev tw12580526944400182652:=()
abbrev tw2909630313591453805:=()
abbrev tw14691973438788255327:=()
abbrev tw12865885882702467636:=()
abbrev tw12795484164849044122:=()
abbrev tw14278414178615716562:=()
abbrev tw8583728377864066096:=()
abbrev tw16125397117010732423:=()
abbrev tw3574069071900892515:=()
abbrev tw6134594435960177869:=()
abbrev tw5363441844807059202:=()
abbrev tw3148939485685873544:=()
abbrev tw13802388060365590964:=()
abbrev tw15245824434057110213:=()
abbrev tw16135015357970480120:=()
abbrev tw13568438170082626061:=()
abbrev tw1982221042877842685:=()
abbrev tw1509715512492626551:=()
abbrev tw15681878057232488425:=()
abbrev tw7874978011289646253:=()
abbrev tw17387741822210517711:=()
abbrev tw9532411500029277474:=()
abbrev tw14280378013142366691:=()
abbrev tw6472214624550058978:=()
abbrev tw9280678358179109173:=()
abbrev tw5260828965690367851:=()
abbrev tw6423394725226879721:=()
abbrev tw7656508097367188990:=()
abbrev tw8402944922355399470:=()
abbrev tw7765412777854144738:=()
abbrev tw7164945814737844470:=()
abbrev tw7180051380412797258:=()
abbrev tw17003008799023543200:=()
abbrev tw72306856234057497:=()
abbrev tw13768379395241302697:=()
abbrev tw11671398040257965203:=()
abbrev tw4479343060912911078:=()
abbrev tw4620908146780062831:=()
abbrev tw773360844885471286:=()
abbrev tw14901041465006041316:=()
abbrev tw7026575577241523263:=()
abbrev tw17804934242709106294:=()
abbrev tw8818851377598346799:=()
abbrev tw15192915306375259435:=()
abbrev tw16783879045903787629:=()
abbrev tw15105563803113851659:=()
abbrev tw15424870605140409833:=()
abbrev tw861417020019740182:=()
abbrev tw2185282457711354640:=()
abbrev tw13429515499273662612:=()
abbrev tw11442300335508469285:=()
abbrev tw8266147442823784284:=()
abbrev tw13835402774129082932:=()
abbrev tw7463647217373230548:=()
abbrev tw11295681212770816312:=()
abbrev tw10266125285776363273:=()
abbrev tw4401729937770765598:=()
abbrev tw8415194465346322701:=()
abbrev tw4556940774143413268:=()
abbrev tw3386957430181138526:=()
abbrev tw6258792080801067005:=()
abbrev tw5657132781917709998:=()
abbrev tw5142216541134549359:=()
abbrev tw11899848756228043220:=()
abbrev tw5806739584047539675:=()
abbrev tw7898364283480086926:=()
abbrev tw5379133771024033267:=()
abbrev tw9754096416849186465:=()
end PySem.W.Fast
namespace L2
open PySem PySem.Spec PyProof.Rows
abbrev Key:=Sum Int Str
def mD:Key->Value->Bool
 | .inl k,v=>Value.isInt k v
 | .inr x,v=>Value.isStrOf x v
def Mm(w:World):Key->Int
 | .inl k=>hashInt k
 | .inr x=>hashStr w x
theorem iW:∀{k:Key}{v:Value},mD k v=true->(∃i t,k=Sum.inl i/\v=Value.int i t)\/(∃x t,k=Sum.inr x/\v=Value.str x t)
 | .inl i,v,h=>by
  obtain⟨t,e⟩:=Value.isInt_shape (k:=i) (v:=v) h;exact .inl ⟨i,t,rfl,e⟩
 | .inr x,v,h=>by
  obtain⟨t,e⟩:=Value.isStrOf_shape (x:=x) (v:=v) h;exact .inr ⟨x,t,rfl,e⟩
theorem Mp(i:Int)(t:Tok):mD (.inl i) (.int i t)=true:=by simp[mD,Value.isInt]
theorem Mq(x:Str)(t:Tok):mD (.inr x) (.str x t)=true:=by simp[mD,Value.isStrOf]
theorem Mr(a b:Int):decide ((Sum.inl a:Key)=Sum.inl b)=(a == b):=by
 by_cases e:a=b
 ·subst e;simp
 ·have h:¬(Sum.inl a:Key)=Sum.inl b:=λq=>e (Sum.inl.inj q)
  rw[ze h];exact(beq_eq_false_iff_ne.mpr e).symm
theorem Ms(a b:Str):decide ((Sum.inr a:Key)=Sum.inr b)=decide (a=b):=by
 by_cases e:a=b
 ·subst e;simp
 ·have h:¬(Sum.inr a:Key)=Sum.inr b:=λq=>e (Sum.inr.inj q)
  rw[ze h,ze e]
theorem Mt(a:Int)(b:Str):decide ((Sum.inl a:Key)=Sum.inr b)=false:=ze (λq=>nomatch q)
theorem Mu(a:Str)(b:Int):decide ((Sum.inr a:Key)=Sum.inl b)=false:=ze (λq=>nomatch q)
def dC(prog:Program)(w:World):PySem.KeyKind prog w Key where
 is:=mD
 hash:=Mm w
 inj:=λv a b ha hb=>by
  rcases iW ha with⟨i,t,rfl,rfl⟩ | ⟨x,t,rfl,rfl⟩
  ·rcases iW hb with⟨j,u,rfl,e⟩ | ⟨y,u,rfl,e⟩
   ·injection e with e1 _;rw[e1]
   ·exact nomatch e
  ·rcases iW hb with⟨j,u,rfl,e⟩ | ⟨y,u,rfl,e⟩
   ·exact nomatch e
   ·injection e with e1 _;rw[e1]
 byValue:=λk v h=>by
  rcases iW h with⟨i,t,rfl,rfl⟩ | ⟨x,t,rfl,rfl⟩<;>rfl
 pyHash:=λhv h=>by
  rcases iW hv with⟨i,t,rfl,rfl⟩ | ⟨x,t,rfl,rfl⟩
  ·exact wpAny_pyHash_int h
  ·exact wpAny_pyHash_str h
 eqBool:=λhu hv h=>by
  rcases iW hu with⟨i,t,rfl,rfl⟩ | ⟨x,t,rfl,rfl⟩
  ·rcases iW hv with⟨j,u,rfl,rfl⟩ | ⟨y,u,rfl,rfl⟩
   ·rw[Mr] at h;exact wpAny_eqBool_int h
   ·rw[Mt] at h;exact SeqAt.EqAt.int_str i t y u _ _ _ _ h
  ·rcases iW hv with⟨j,u,rfl,rfl⟩ | ⟨y,u,rfl,rfl⟩
   ·rw[Mu] at h;exact SeqAt.EqAt.str_int x t j u _ _ _ _ h
   ·rw[Ms] at h;exact wpAny_eqBool_str h
 «strs»:=λk x t v h=>by
  rcases iW h with⟨i,u,rfl,e⟩ | ⟨y,u,rfl,e⟩
  ·exact nomatch e
  ·injection e with e1 _
   subst e1
   cases v<;>rfl
theorem Mv(prog:Program)(w:World)(i:Int)(t:Tok):(dC prog w).is (.inl i) (.int i t)=true:=Mp i t
theorem Mw(prog:Program)(w:World)(x:Str)(t:Tok):(dC prog w).is (.inr x) (.str x t)=true:=Mq x t
inductive V where
 | non | bl (b:Bool) | int (i:Int) | str (x:Str) | byt (b:Array UInt8) | flt (b:UInt64) | ref (a:Addr) | ty (n:String)
 deriving DecidableEq
def RelV:V->Value->Prop
 | .non,u=>u=Value.none
 | .bl b,u=>u=Value.bool b
 | .int i,u=>∃t,u=Value.int i t
 | .str x,u=>∃t,u=Value.str x t
 | .byt b,u=>∃t,u=Value.bytes b t
 | .flt b,u=>∃t,u=Value.float b t
 | .ref a,u=>u=Value.ref a
 | .ty n,u=>u=Value.type n
abbrev aN:List V->List Value->Prop:=Paired RelV
theorem aN.length{xs:List V}{us:List Value}(r:aN xs us):xs.length=us.length:=Paired.length r
theorem aN.get:∀{xs:List V}{us:List Value}{i:Nat}{x:V},aN xs us->xs[i]?=some x->∃u,us[i]?=some u/\RelV x u
 | _,_,_,_,.nil,e=>by simp at e
 | _,_,0,_,.cons r _,e=>by simp at e;subst e;exact⟨_,rfl,r⟩
 | _,_,i+1,x,.cons _ t,e=>by
  obtain⟨u,h1,h2⟩:=aN.get (i:=i) (x:=x) t (by simpa using e);exact⟨u,by simpa using h1,h2⟩
theorem aN.set{x:V}{u:Value}(r:RelV x u):∀{xs:List V}{us:List Value} (i:Nat),aN xs us->aN (xs.set i x) (us.set i u)
 | _,_,_,.nil=>.nil
 | _,_,0,.cons _ t=>.cons r t
 | _,_,i+1,.cons q t=>.cons q (aN.set r i t)
theorem aN.append:∀{xs ys:List V}{us a:List Value},aN xs us->aN ys a->aN (xs++ys) (us++a)
 | _,_,_,_,.nil,s=>s
 | _,_,_,_,.cons r t,s=>.cons r (aN.append t s)
theorem aN.take:∀{xs:List V}{us:List Value} (n:Nat),aN xs us->aN (xs.take n) (us.take n)
 | _,_,0,_=>.nil
 | _,_,_+1,.nil=>.nil
 | _,_,n+1,.cons r t=>.cons r (aN.take n t)
theorem aN.drop:∀{xs:List V}{us:List Value} (n:Nat),aN xs us->aN (xs.drop n) (us.drop n)
 | _,_,0,r=>r
 | _,_,_+1,.nil=>.nil
 | _,_,n+1,.cons _ t=>aN.drop n t
theorem aN.none_of:∀{xs:List V}{us:List Value}{i:Nat},aN xs us->xs[i]?=none->us[i]?=none:=λ{xs us i} r e=>by
 have h1:=r.length;have h2:xs.length<=i:=List.getElem?_eq_none_iff.mp e;exact List.getElem?_eq_none_iff.mpr (by omega)
def dD:Option V->Option Value->Prop
 |some v,some u=>RelV v u
 |none,none=>True
 | _,_=>False
def KV{κ:Type}:List (κ×V)->List (κ×Value)->Prop:=Paired λ(p:κ×V) (q:κ×Value)=>p.1=q.1/\RelV p.2 q.2
def kV:Key->V
 | .inl i=>.int i
 | .inr x=>.str x
section
variable {prog:Program}{w:World}{K:Type}[DecidableEq K](knd:KeyKind prog w K)(ik:Int->K)
def eE(h:Heap)(k:Int×List K)(a:Addr):Prop:=∃o items n u c,h.get? a=some o/\o.cls=.type "tuple"/\o.data=.seq items n/\items.toList=[u,.ref c]/\knd.is (ik k.1) u=true/\IsTupleKey knd h k.2 c
variable {knd ik}
theorem eE.typeIs{s:Shared}{k:Int×List K}{a:Addr}(x:eE knd ik s.heap k a):s.TypeIs (.ref a) "tuple":=let ⟨o,_,_,_,_,ho,hc,_⟩:=x;⟨o,ho,hc⟩
theorem eE.inj(B:∀i j,ik i=ik j->i=j){h:Heap}{a:Addr}{x y:Int×List K}(H:eE knd ik h x a)(G:eE knd ik h y a):x=y:=by
 obtain⟨o,items,n,u,c,J,_,hd,O,I,L⟩:=H;obtain⟨F,l,R,Q,T,q,_,g,f,m,r⟩:=G;obtain rfl:o=F:=zz (J.symm.trans q);rw[hd] at g
 injection g with h1 _
 subst h1;rw[O] at f
 injection f with P d
 injection d with d _
 injection d with d
 subst P d;have E:=B _ _ (knd.inj _ _ _ I m);have C:=L.inj r;exact Prod.ext E C
theorem eE.keeps{h h':Heap}{k:Int×List K}{a d:Addr}{o:Obj}{es ep}(x:eE knd ik h k a)(m:h.get? d=some o)(hd:o.data=.dict es ep)(hs:Heap.SameBut d h h'):eE knd ik h' k a:=by
 obtain⟨l,items,n,u,c,g,B,f,y,q,r⟩:=x
 have j:a≠d:=by
  rintro rfl;obtain rfl:l=o:=zz (g.symm.trans m);rw[hd] at f;exact nomatch f
 exact⟨l,items,n,u,c,(hs.2 a j).trans g,B,f,y,q,r.keeps m hd hs⟩
variable {A:Around}{E:Value->Shared->Prop}{s:Shared}
def uX(knd:KeyKind prog w K)(ik:Int->K)(k:Int×List K):Int:=reduceHash (Builtin.Tuple.tupleHashOf [knd.hash (ik k.1),tupleKeyHash knd k.2])
theorem Mx{k:Int×List K}{a:Addr}{Q:Int->Shared->Prop}(f:A.units+1<cLine)(r:eE knd ik s.heap k a)(h:Q (uX knd ik k) {s with toks:=s.toks+(k.2.length+3)}):
  wpAny (model prog w) A (pyHash (.ref a)) Q E s:=by
 have g:=r.typeIs;have y:A.units<cLine:=Nat.lt_of_le_of_lt (Nat.le_add_right _ 1) f;obtain⟨o,items,n,u,c,B,_,hd,C,m,q⟩:=r;unfold pyHash
 first | unfold pyHashByItsType | skip
 first | refine za (wpAny_cRoomFor_or (.inr y) ?_) | skip
 refine za (wpAny_specialOf g F.slot_tuple_hash.lookup ?_);show wpAny _ _ (if(some (Value.builtin "tuple.__hash__") == some Value.none)=true then _ else _) Q E s;rw[if_neg (by rw[beq_builtin_none];exact zh)];refine za (wpAny_specialOf g F.slot_tuple_hash.lookup ?_);show wpAny _ _ (callSpecialIfBoundUnlessNone? (.ref a) "__hash__" _ >>= _) Q E s;refine za (wpAny_callSpecialIfBoundUnlessNone?_slot g F.slot_tuple_hash (wpAny_call_entry F.slot_tuple_hash g F.entry_tuple_hash ?_ (F.args_tuple_hash_1 _)));show wpAny _ _ (Builtin.Tuple.tupleItemsOf (.ref a) >>= _) _ _ s;refine za (wpAny_tupleItemsOf B hd ?_)
 refine za ?_;rw[<-Array.forIn_toList,C];refine wpAny_forIn_list _
  (λrest (b:Array Int) s'=>(rest=[u,.ref c]/\b.toList=[]/\s'=s)\/(rest=[.ref c]/\b.toList=[knd.hash (ik k.1)]/\s' = {s with toks:=s.toks+1})\/(rest=[]/\b.toList=[knd.hash (ik k.1),tupleKeyHash knd k.2]/\s' = {s with toks:=s.toks+(k.2.length+2)}))
  _ ?_ ?_ _ _ (.inl ⟨rfl,rfl,rfl⟩)
 ·rintro x rest b s' (⟨d,hb,rfl⟩ | ⟨d,hb,rfl⟩ | ⟨d,hb,rfl⟩)
  ·injection d with l j
   subst l j;refine za (knd.pyHash m ?_)
   first
    | exact zb (.inr (.inl ⟨rfl,by simp[hb],rfl⟩))
    | exact za (zb (zb (.inr (.inl ⟨rfl,by simp[hb],rfl⟩))))
  ·injection d with l j
   subst l j;refine za (wpAny_pyHash_tuple (tupleKind_room_in1 (knd:=knd) f) (s:={s with toks:=s.toks+1}) q ?_)
   first
    | exact zb (.inr (.inr ⟨rfl,by simp[hb],by simp[Nat.add_assoc,Nat.add_comm];omega⟩))
    | exact za (zb (zb (.inr (.inr ⟨rfl,by simp[hb],by simp[Nat.add_assoc,Nat.add_comm];omega⟩))))
  ·cases d
 ·rintro b s' (⟨d,hb,rfl⟩ | ⟨d,hb,rfl⟩ | ⟨d,hb,rfl⟩)
  ·cases d
  ·cases d
  ·show wpAny _ _ (retInt (Builtin.Tuple.tupleHashOf b.toList)) _ _ _;rw[hb];refine wpAny_ret_mkInt ?_;show wpAny _ _ (if(decide (-(2:Int) ^ 63<=Builtin.Tuple.tupleHashOf [knd.hash (ik k.1),tupleKeyHash knd k.2])&&decide (Builtin.Tuple.tupleHashOf [knd.hash (ik k.1),tupleKeyHash knd k.2]<2 ^ 63))=true then _ else _) Q E _;unfold uX reduceHash at h
   by_cases d:(decide (-(2:Int) ^ 63<=Builtin.Tuple.tupleHashOf [knd.hash (ik k.1),tupleKeyHash knd k.2])&&decide (Builtin.Tuple.tupleHashOf [knd.hash (ik k.1),tupleKeyHash knd k.2]<2 ^ 63))=true
   ·rw[if_pos d];rw[if_pos d] at h;exact zb (by simpa [Nat.add_assoc] using h)
   ·rw[if_neg d];rw[if_neg d] at h;exact za (zW (zb (by simpa [Nat.add_assoc] using h)))
theorem Mz(Q:∀i j,ik i=ik j->i=j)(hu:A.units+2<cLine){x y:Int×List K}{a b:Addr}{P:Fin->Shared->Prop}(hx:eE knd ik s.heap x a)(hy:eE knd ik s.heap y b)(h:P (.done (.ret (.bool (decide (x=y))))) s):
  wpAny (model prog w) A (Builtin.«tuple.__eq__» ⟨[.ref a,.ref b],[]⟩) P E s:=by
 have Z:=hy.typeIs;obtain⟨oa,q,na,ua,ca,O,_,T,l,Y,X⟩:=hx;obtain⟨ob,n,nb,ub,cb,L,_,R,g,W,U⟩:=hy
 have J:(q.size == n.size)=true:=by
  have h1:q.toList.length=2:=by rw[l];rfl
  have h2:n.toList.length=2:=by rw[g];rfl
  rw[Array.length_toList] at h1 h2;rw[h1,h2];rfl
 show wpAny _ _ (isInstance (.ref b) (.type "tuple") >>= _) _ _ s;refine za (wpAny_isInstance Z isSubtype_tuple_tuple ?_);simp only[Bool.not_true,Bool.false_eq_true,if_false];refine za (wpAny_tupleItemsOf O T ?_);refine za (wpAny_tupleItemsOf L R ?_);refine za ?_;rw[l,g];refine wpAny_forIn_list _
  (λrest r B=>r.1=none/\B=s/\(rest=[(ua,ub),(.ref ca,.ref cb)]\/(rest=[(.ref ca,.ref cb)]/\x.1=y.1)\/(rest=[]/\x.1=y.1/\x.2=y.2)))
  _ ?_ ?_ _ _ ⟨rfl,rfl,.inl rfl⟩
 ·rintro⟨u,v⟩ rest r B ⟨H,rfl,(c | ⟨c,C⟩ | ⟨c,_⟩)⟩
  ·injection c with f G
   injection f with f F
   subst f G F;refine za (knd.eqBool (a:=ik x.1) (b:=ik y.1) Y W ?_)
   by_cases d:x.1=y.1
   ·rw[zj (by rw[d])];simp only[Bool.not_true,Bool.false_eq_true,if_false];exact zb ⟨by simp,by simp,.inr (.inl ⟨by simp,d⟩)⟩
   ·rw[ze (λz=>d (Q _ _ z))];simp only[Bool.not_false,if_true]
    have I:decide (x=y)=false:=ze λz=>d (by rw[z])
    rw[I] at h;exact za (zb (zb (zb h)))
  ·injection c with f G
   injection f with f F
   subst f G F;refine za (wpAny_eqBool_tuple (by omega) X U ?_)
   by_cases d:x.2=y.2
   ·rw[zj d];simp only[Bool.not_true,Bool.false_eq_true,if_false];exact zb ⟨by simp,by simp,.inr (.inr ⟨by simp,C,d⟩)⟩
   ·rw[ze d];simp only[Bool.not_false,if_true]
    have I:decide (x=y)=false:=ze λz=>d (by rw[z])
    rw[I] at h;exact za (zb (zb (zb h)))
  ·cases c
 ·rintro⟨r1,r2⟩ B ⟨H,rfl,(c | ⟨c,C⟩ | ⟨c,C,e2⟩)⟩
  ·cases c
  ·cases c
  ·simp only at H;subst H;refine zb ?_
   have m:(q.size == n.size)=decide (x=y):=by rw[J,zj (Prod.ext C e2)]
   show P (.done (.ret (.bool (q.size == n.size)))) B;rw[m];exact h
theorem MF(d:∀i j,ik i=ik j->i=j){x y:Int×List K}{a b:Addr}{Q:Bool->Shared->Prop}(q:A.units+4<cLine)(f:eE knd ik s.heap x a)(g:eE knd ik s.heap y b)(h:Q (decide (x=y)) s):
  wpAny (model prog w) A (eqBool (.ref a) (.ref b)) Q E s:=by
 have n:A.units<cLine:=by omega
 have m:A.in1.units+2<cLine:=by
  show A.units+1+2<cLine;omega
 have l:A.units+2<cLine:=by omega
 unfold eqBool
 try with_reducible refine zR ?_
 show wpAny _ _ (if(Value.ref a == Value.ref b)=true then _ else _) Q E s
 by_cases c:(Value.ref a == Value.ref b)=true
 ·rw[if_pos c]
  have e:a=b:=by have:=eq_of_beq c;injection this
  subst e;obtain rfl:=f.inj d g;exact za (zW (zb (by simpa using h)))
 ·rw[if_neg c]
  exact za (wpAny_richCompare_same_room (op:=.Eq) f.typeIs g.typeIs F.slot_tuple_eq
   (wpAny_call_entry F.slot_tuple_eq f.typeIs F.entry_tuple_eq (Mz d (by first | exact m | exact l) f g ⟨_,rfl,(λe=>nomatch e),wpAny_truthy_bool h⟩) (F.args_tuple_eq_2 _ _)) n)
theorem MJ{m:Nat}{ks:List K}{a:Addr}{Q:Bool->Shared->Prop}(g:IsTupleKey knd s.heap ks a)(h:Q true s):wpAny (model prog w) A (eqIsQuiet (m+1) (.ref a)) Q E s:=by
 have j:=g.typeIs;obtain⟨o,items,n,l,_,hd,q⟩:=g;unfold eqIsQuiet;refine za (wpAny_specialOf j F.slot_tuple_eq.lookup ?_);show wpAny _ _ (isInstance (.ref a) (.type "tuple") >>= _) _ _ s;refine za (wpAny_isInstance j isSubtype_tuple_tuple ?_);simp only[Bool.not_true,Bool.false_eq_true,if_false];refine za (wpAny_seqItems l hd ?_);refine za ?_;show wpAny _ _ (forIn items _ _) _ _ s;rw[<-Array.forIn_toList];refine wpAny_forIn_list _ (λrest r c=>r.1=none/\c=s/\∀v∈rest,carriedByValue v=true) _ ?_ ?_ _ _ ⟨rfl,rfl,q.byValue⟩
 ·rintro v rest r c ⟨d,rfl,hall⟩;rw[eqIsQuiet_byValue _ (hall v zg)];refine za (zb ?_);simp only[Bool.not_true,Bool.false_eq_true,if_false];exact zb ⟨rfl,rfl,λu f=>hall u (zq _ f)⟩
 ·rintro⟨y,x⟩ c ⟨d,rfl,_⟩;simp only at d;subst d;exact zb h
theorem MK{k:Int×List K}{a:Addr}{Q:Bool->Shared->Prop}(m:eE knd ik s.heap k a)(h:Q true s):wpAny (model prog w) A (eqIsQuiet 8 (.ref a)) Q E s:=by
 have q:=m.typeIs;obtain⟨o,items,n,u,c,y,_,hd,B,j,l⟩:=m;unfold eqIsQuiet;refine za (wpAny_specialOf q F.slot_tuple_eq.lookup ?_);show wpAny _ _ (isInstance (.ref a) (.type "tuple") >>= _) _ _ s;refine za (wpAny_isInstance q isSubtype_tuple_tuple ?_);simp only[Bool.not_true,Bool.false_eq_true,if_false];refine za (wpAny_seqItems y hd ?_);refine za ?_;show wpAny _ _ (forIn items _ _) _ _ s;rw[<-Array.forIn_toList,B];refine wpAny_forIn_list _ (λrest r f=>r.1=none/\f=s/\∀v∈rest,v=u\/v=.ref c) _ ?_ ?_ _ _ ⟨rfl,rfl,λv x=>by simpa using x⟩
 ·rintro v rest r f ⟨g,rfl,hall⟩
  rcases hall v zg with e | e
  ·rw[e,eqIsQuiet_byValue _ (knd.byValue _ _ j)];refine za (zb ?_);simp only[Bool.not_true,Bool.false_eq_true,if_false];exact zb ⟨rfl,rfl,λu d=>hall u (zq _ d)⟩
  ·rw[e];refine za (MJ l ?_);simp only[Bool.not_true,Bool.false_eq_true,if_false];exact zb ⟨rfl,rfl,λu d=>hall u (zq _ d)⟩
 ·rintro⟨G,C⟩ f ⟨g,rfl,_⟩;simp only at g;subst g;exact zb h
end
abbrev NK:=Int×List Key
def mF(prog:Program)(w:World):HeapKind prog w NK where
 is:=eE (dC prog w) Sum.inl
 hash:=uX (dC prog w) Sum.inl
 draws:=λk=>k.2.length+3
 room:=λA=>A.units+4<cLine
 inj:=λhx hy=>hx.inj (λ_ _ e=>Sum.inl.inj e) hy
 keeps:=λx ho hd hs=>x.keeps ho hd hs
 pyHash:=λhu hk h=>Mx (by omega) hk h
 eqBool:=λhu hx hy h=>MF (λ_ _ e=>Sum.inl.inj e) hu hx hy h
 quiet:=λhk h=>MK hk h
inductive HO where
  | lst (xs:List V)
  | tup (xs:List V)
  | dK (kvs:List (Key×V)) | dT (kvs:List (List Key×V))
  | dN (K:List (Addr×Obj)) (kvs:List (NK×V))
  | set (S:Int->Bool) (n:Nat)
  | ins (C dx:Addr) (fs:List (Str×V))
  | own (x:Addr)
  | xd (fs:List (Str×V))
  | met (f x:Addr)
  | rng (lo hi:Int)
  | frz (o:Obj) (u:HO)
  | tbl (ps:Array Value)
  | ext (φ:Heap->Prop)
abbrev Hp:=Addr->Option HO
def upd(H:Hp)(a:Addr)(o:HO):Hp:=λb=>if b=a then some o else H b
theorem bI{H:Hp}{a:Addr}{o:HO}:upd H a o a=some o:=by unfold upd;rw[if_pos rfl]
theorem aL{H:Hp}{a b:Addr}{o:HO}(h:b≠a):upd H a o b=H b:=by unfold upd;rw[if_neg h]
theorem ne_of{H:Hp}{a b:Addr}{o u:HO}(h:H a=some o)(h':H b=some u)(d:o≠u):a≠b:=by
 intro e;subst e;rw[h] at h';exact d (zz h')
theorem cz{H:Hp}{a b:Addr}{o:HO}(h:H a=some o)(h':H b=none):a≠b:=by
 intro e;subst e;rw[h] at h';cases h'
def NAt(K:List (Addr×Obj))(H:Hp)(k:NK)(b:Addr):Prop:=∃c,H b=some (.tup [.int k.1,.ref c]) /\
 (H c=some (.tup (k.2.map kV))\/∃(o:Obj) (a:Array Value) (n:Nat),K.lookup c=some o/\o.cls=.type "tuple"/\o.data=.seq a n/\a.size<=sizeLine/\aN (k.2.map kV) a.toList)
theorem NAt.mono{K:List (Addr×Obj)}{H d:Hp}{k:NK}{b:Addr}(x:NAt K H k b)(a:∀b xs,H b=some (.tup xs)->d b=some (.tup xs)):NAt K d k b:=by
 obtain⟨c,h1,h2⟩:=x;exact⟨c,a _ _ h1,h2.imp (a _ _) id⟩
section
variable (P:Program)(w:World)
def bW(H:Hp)(h:Heap)(a:Addr):HO->Prop
 | .lst c=>c.length<=sizeLine/\∃(d:List Value) (n:Nat),aN c d/\h.get? a=some {cls:=.type "list",data:=.seq d.toArray n}
 | .tup c=>c.length<=sizeLine/\∃d:List Value,aN c d/\IsTup h a d.toArray
 | .dK kvs=>kvs.length<=sizeLine/\(a == sysModules)=false/\∃m,KV kvs m/\h.DictOf (dC P w) a m
 | .dT kvs=>kvs.length<=sizeLine/\(a == sysModules)=false/\∃c:List (List Key×Addr×Value),
   Paired (λ(p:List Key×V) (q:List Key×Addr×Value)=>p.1=q.1/\H q.2.1=some (.tup (p.1.map kV))/\RelV p.2 q.2.2) kvs c /\
   ∃o j l,h.get? a=some o/\o.ExactDict/\o.data=.dict j l/\j.toList=c.map (entryOfKey (tupleKind (dC P w)))/\(c.map (·.1)).Nodup
 | .dN K kvs=>kvs.length<=sizeLine/\(a == sysModules)=false/\∃c:List (NK×Addr×Value),
   Paired (λ(p:NK×V) (q:NK×Addr×Value)=>p.1=q.1/\NAt K H p.1 q.2.1/\RelV p.2 q.2.2) kvs c /\
   ∃o j l,h.get? a=some o/\o.ExactDict/\o.data=.dict j l/\j.toList=c.map (entryOfKey (mF P w))/\(c.map (·.1)).Nodup
 | .set S n=>h.SetOf (intKind P w) a S n
 | .ins C dx fs=>H dx=some (.own a)/\fs.length<=1000/\dx≠a/\h.get? a=some (PySem.W.instObj C dx) /\
   ∃g,h.Ns1 dx g/\(∀f,dD (fs.lookup f) (g f))/\PySem.Within g (fs.map (·.1))
 | .own _=>∃o,h.get? a=some o
 | .xd fs=>∃g,h.Ns1 a g/\∀f,dD (fs.lookup f) (g f)
 | .rng lo hi=>∃t u v,h.get? a=some {cls:=.type "range",data:=.fields #[.int lo t,.int hi u,.int 1 v]}
 | .frz o u=>h.get? a=some o/\bW H h a u
 | .tbl ps=>h.get? a=some {cls:=.none,data:=.fields ps}
 | .met f x=>h.get? a=some (PySem.W.methodObj (.ref f) (.ref x))
 | .ext φ=>φ h/\(∃o,h.get? a=some o)/\∀h1 h2:Heap,φ h1->(∀o,h1.get? a=some o->h2.get? a=some o)->φ h2
def HOk(H:Hp)(h:Heap):Prop:=∀a o,H a=some o->bW P w H h a o
end
section
variable {P:Program}{w:World}{H H':Hp}{h h':Heap}{a:Addr}{o:HO}
theorem bW.lt(x:bW P w H h a o):a<h.objs.size:=by
 cases o with
 |lst c=>obtain⟨_,_,_,_,e⟩:=x;exact zk e
 |tup c=>obtain⟨_,_,_,p⟩:=x;exact p.lt
 |dK kvs=>obtain⟨_,_,_,_,o,_,_,e,_⟩:=x;exact zk e
 |dT kvs=>obtain⟨_,_,_,_,o,_,_,e,_⟩:=x;exact zk e
 |dN K kvs=>obtain⟨_,_,_,_,o,_,_,e,_⟩:=x;exact zk e
 |set S n=>obtain⟨o,_,_,_,e,_⟩:=x;exact zk e
 |ins C j fs=>obtain⟨_,_,_,e,_⟩:=x;exact zk e
 |own y=>obtain⟨_,e⟩:=x;exact zk e
 |xd fs=>obtain⟨_,⟨_,_,_,e,_⟩,_⟩:=x;exact zk e
 |rng lo g=>obtain⟨_,_,_,e⟩:=x;exact zk e
 |frz ob u=>obtain⟨e,_⟩:=x;exact zk e
 |tbl d=>exact zk (show h.get? a=some _ from x)
 |met f y=>exact zk (show h.get? a=some _ from x)
 |ext φ=>obtain⟨_,⟨_,e⟩,_⟩:=x;exact zk e
theorem Paired.mapP{α β:Type}{F G:α->β->Prop}:∀{d:List α}{c:List β},Paired F d c->(∀a b,F a b->G a b)->Paired G d c
 | _,_,.nil,_=>.nil
 | _,_,.cons r t,f=>.cons (f _ _ r) (Paired.mapP t f)
theorem bW.stay(x:bW P w H h a o)(k:∀b u,(b=a\/H b=some (.own a))->h.get? b=some u->h'.get? b=some u)
  (I:∀b,H b=some (.own a)->H' b=some (.own a)) (E:∀b xs,H b=some (.tup xs)->H' b=some (.tup xs)):bW P w H' h' a o:=by
 induction o with
 |lst xs=>obtain⟨z,l,n,r,e⟩:=x;exact⟨z,l,n,r,k _ _ (.inl rfl) e⟩
 |tup xs=>obtain⟨z,l,r,ob,e,c⟩:=x;exact⟨z,l,r,ob,k _ _ (.inl rfl) e,c⟩
 |dK kvs=>obtain⟨z,y,F,r,ob,g,j,e,c⟩:=x;exact⟨z,y,F,r,ob,g,j,k _ _ (.inl rfl) e,c⟩
 |dT kvs =>
  obtain⟨z,y,xs,r,ob,g,j,e,c⟩:=x;exact⟨z,y,xs,Paired.mapP r λp q z=>⟨z.1,E _ _ z.2.1,z.2.2⟩,ob,g,j,k _ _ (.inl rfl) e,c⟩
 |dN K kvs =>
  obtain⟨z,y,xs,r,ob,g,j,e,c⟩:=x;exact⟨z,y,xs,Paired.mapP r λp q z=>⟨z.1,z.2.1.mono E,z.2.2⟩,ob,g,j,k _ _ (.inl rfl) e,c⟩
 |set S n=>obtain⟨ob,g,j,t,e,c⟩:=x;exact⟨ob,g,j,t,k _ _ (.inl rfl) e,c⟩
 |ins C dx fs =>
  obtain⟨d,z,ne,e,B,⟨m,g,j,J,c⟩,r⟩:=x;exact⟨I _ d,z,ne,k _ _ (.inl rfl) e,B,⟨m,g,j,k _ _ (.inr d) J,c⟩,r⟩
 |own y=>obtain⟨ob,e⟩:=x;exact⟨ob,k _ _ (.inl rfl) e⟩
 |xd fs=>obtain⟨B,⟨m,g,j,e,c⟩,r⟩:=x;exact⟨B,⟨m,g,j,k _ _ (.inl rfl) e,c⟩,r⟩
 |rng lo L=>obtain⟨t,u,v,e⟩:=x;exact⟨t,u,v,k _ _ (.inl rfl) e⟩
 |frz ob u G=>obtain⟨e,q⟩:=x;exact⟨k _ _ (.inl rfl) e,G q⟩
 |tbl ps =>
  have e:h.get? a=some {cls:=.none,data:=.fields ps}:=x;show h'.get? a=some {cls:=.none,data:=.fields ps};exact k a _ (.inl rfl) e
 |met f y =>
  have e:h.get? a=some (PySem.W.methodObj (.ref f) (.ref y)):=x;show h'.get? a=some (PySem.W.methodObj (.ref f) (.ref y));exact k a _ (.inl rfl) e
 |ext φ=>obtain⟨p,⟨o,e⟩,st⟩:=x;exact⟨st _ _ p λo q=>k _ _ (.inl rfl) q,⟨o,k _ _ (.inl rfl) e⟩,st⟩
theorem HOk.lt(x:HOk P w H h)(e:H a=some o):a<h.objs.size:=(x a o e).lt
theorem HOk.fresh(x:HOk P w H h)(e:h.objs.size<=a):H a=none:=by
 cases q:H a with
 |none=>rfl
 |some u=>exact absurd (zF (x.lt q) e) (zY _)
theorem HOk.kept(x:HOk P w H h)(k:∀b u,h.get? b=some u->h'.get? b=some u):HOk P w H h':=λa o e =>
 (x a o e).stay (λb u _ q=>k b u q) (λ_ q=>q) λ_ _ q=>q
theorem HOk.laid(x:HOk P w H h)(k:∀b u,h.get? b=some u->h'.get? b=some u)(j:h.objs.size<=a)(d:bW P w (upd H a o) h' a o):HOk P w (upd H a o) h':=λb u e=>by
 have f:=x.fresh j
 by_cases g:b=a
 ·subst g;rw[bI] at e;cases e;exact d
 ·rw[aL g] at e
  exact(x b u e).stay (λc v _ q=>k c v q) (λc q=>by rw[aL (cz q f)];exact q) λc l q=>by rw[aL (cz q f)];exact q
end
def Rd(H:Hp)(a:Addr)(u:HO):Prop:=H a=some u\/∃o,H a=some (.frz o u)
theorem Rd.of{H:Hp}{a:Addr}{u:HO}(h:H a=some u):Rd H a u:=.inl h
theorem Rd.ok{P:Program}{w:World}{H:Hp}{h:Heap}{a:Addr}{u:HO}(r:Rd H a u)(x:HOk P w H h):bW P w H h a u:=by
 rcases r with r | ⟨o,r⟩
 ·exact x a u r
 ·obtain⟨_,q⟩:=x a _ r;exact q
def Mut:Option HO->Prop
 |some (.lst _)=>True
 |some (.dK _)=>True
 |some (.dT _)=>True
 |some (.dN _ _)=>True
 |some (.set _ _)=>True
 |some (.ins _ _ _)=>True
 |some (.ext _)=>True
 | _=>False
section
variable {P:Program}{w:World}{H:Hp}{h h':Heap}{x e:Addr}{o':HO}
theorem HOk.write(ok:HOk P w H h)(g:Mut (H x))(B:e=x\/H e=some (.own x))(k:∀b u,b≠e->h.get? b=some u->h'.get? b=some u)(n:∃u,h'.get? e=some u)
  (m:bW P w (upd H x o') h' x o'):HOk P w (upd H x o') h':=λb u q=>by
 have d:∀c y,H c=some (.own y)->c≠x:=λc y r z=>by subst z;rw[r] at g;exact g
 have f:∀c xs,H c=some (.tup xs)->c≠x:=λc xs r z=>by subst z;rw[r] at g;exact g
 by_cases l:b=x
 ·subst l;rw[bI] at q;cases q;exact m
 ·rw[aL l] at q
  by_cases a:b=e
  ·have q':H b=some (.own x):=by
    rcases B with z | z
    ·exact absurd (a.trans z) l
    ·rw[a];exact z
   rw[q] at q';cases q';obtain⟨v,C⟩:=n;exact⟨v,by rw[a];exact C⟩
  ·refine(ok b u q).stay (λc v j r=>k c v ?_ r) (λc r=>by rw[aL (d c b r)];exact r) λc xs r=>by rw[aL (f c xs r)];exact r
   rcases j with rfl | j
   ·exact a
   ·rintro rfl
    rcases B with z | z
    ·exact d c b j z
    ·rw[j] at z;cases z;exact l rfl
end
structure Un(fs ex:List Addr)(H H':Hp)(h h':Heap):Prop where
 keep:∀b o,h.get? b=some o->H b=none->b∉fs->b∉ex->h'.get? b=some o
 slot:∀b o,h.get? b=some o->H b=none->b∈fs->b∉ex->∃sl,h'.get? b=some {o with slots:=sl}
 free:∀b o,h.get? b=some o->H b=none->b∉ex->H' b=none
 there:∀b o,h.get? b=some o->b∉ex->∃o',h'.get? b=some o'
 tups:∀b xs,H b=some (.tup xs)->H' b=some (.tup xs)
 frzs:∀b o u,H b=some (.frz o u)->H' b=some (.frz o u)
 tbls:∀b ps,H b=some (.tbl ps)->∃more,H' b=some (.tbl (ps++more))
section
variable {fs fs' ex ex':List Addr}{H H1 H2:Hp}{h h1 h2 h':Heap}{a x e:Addr}{o:HO}
theorem Un.any(u:Un fs ex H H1 h h1){b:Addr}{ob:Obj}(q:h.get? b=some ob)(n:H b=none)(c:b∉ex):∃sl,h1.get? b=some {ob with slots:=sl}:=by
 by_cases d:b∈fs
 ·exact u.slot b ob q n d c
 ·exact⟨ob.slots,u.keep b ob q n d c⟩
theorem Un.trans(a:Un fs ex H H1 h h1)(b:Un fs ex H1 H2 h1 h2):Un fs ex H H2 h h2 where
 keep:=λc ob q n hc hx=>b.keep c ob (a.keep c ob q n hc hx) (a.free c ob q n hx) hc hx
 slot:=λc ob q n hc hx=>by
  obtain⟨sl,e1⟩:=a.slot c ob q n hc hx;obtain⟨sl',e2⟩:=b.slot c _ e1 (a.free c ob q n hx) hc hx;exact⟨sl',e2⟩
 free:=λc ob q n hx=>by
  obtain⟨o',e1⟩:=a.there c ob q hx;exact b.free c o' e1 (a.free c ob q n hx) hx
 there:=λc ob q hx=>by
  obtain⟨o',e1⟩:=a.there c ob q hx;exact b.there c o' e1 hx
 tups:=λc xs q=>b.tups c xs (a.tups c xs q)
 frzs:=λc ob xs q=>b.frzs c ob xs (a.frzs c ob xs q)
 tbls:=λc ps q=>by
  obtain⟨m1,e1⟩:=a.tbls c ps q;obtain⟨m2,e2⟩:=b.tbls c _ e1;exact⟨m1++m2,by rw[e2,Array.append_assoc]⟩
theorem Un.kept(k:∀b u,h.get? b=some u->h'.get? b=some u):Un fs ex H H h h' :=
 ⟨λb ob q _ _ _=>k b ob q,λb ob q _ _ _=>⟨ob.slots,k b ob q⟩,λ_ _ _ n _=>n,λb ob q _=>⟨ob,k b ob q⟩,λ_ _ q=>q,λ_ _ _ q=>q,λ_ c q=>⟨#[],by rw[q];simp⟩⟩
theorem Un.refl:Un fs ex H H h h:=Un.kept λ_ _ q=>q
theorem Un.laid(k:∀b u,h.get? b=some u->h'.get? b=some u)(hp:h.objs.size<=a)(hn:H a=none):Un fs ex H (upd H a o) h h' where
 keep:=λb u q _ _ _=>k b u q
 slot:=λb u q _ _ _=>⟨u.slots,k b u q⟩
 free:=λb u q n _=>by rw[aL (zo (zF (zk q) hp))];exact n
 there:=λb u q _=>⟨u,k b u q⟩
 tups:=λb xs q=>by rw[aL (cz q hn)];exact q
 frzs:=λb u xs q=>by rw[aL (cz q hn)];exact q
 tbls:=λb ps q=>⟨#[],by rw[aL (cz q hn),q];simp⟩
theorem Un.write(d:Mut (H x))(y:e=x\/H e=some (.own x))(k:∀b u,b≠e->h.get? b=some u->h'.get? b=some u)(g:∃u,h'.get? e=some u):Un fs ex H (upd H x o) h h':=by
 have j:∀b,H b=none->b≠x:=λb n z=>by subst z;rw[n] at d;exact d
 have l:∀b,H b=none->b≠e:=λb n z=>by
  subst z
  rcases y with r | r
  ·exact j b n r
  ·rw[n] at r;cases r
 have f:∀b u,H b=some u->¬Mut (some u)->b≠x:=λb u q nm z=>by subst z;rw[q] at d;exact nm d
 refine⟨λb u q n _ _=>k b u (l b n) q,λb u q n _ _=>⟨u.slots,k b u (l b n) q⟩,λb u q n _=>by rw[aL (j b n)];exact n,λb u q _=>?_,
  λb m q=>by rw[aL (f b _ q λz=>z)];exact q,λb u m q=>by rw[aL (f b _ q λz=>z)];exact q,λb B q=>⟨#[],by rw[aL (f b _ q λz=>z),q];simp⟩⟩
 by_cases c:b=e
 ·subst c;exact g
 ·exact⟨u,k b u c q⟩
theorem Un.mono(u:Un fs ex H H1 h h1)(hs:∀b∈fs,b∈fs')(d:∀b∈ex,b∈ex'):Un fs' ex' H H1 h h1 :=
 ⟨λb ob q n f c=>u.keep b ob q n (λz=>f (hs b z)) λz=>c (d b z),λ_ _ q n _ c=>u.any q n λz=>c (d _ z),λb ob q n c=>u.free b ob q n λz=>c (d b z),λb ob q c=>u.there b ob q λz=>c (d b z),u.tups,u.frzs,u.tbls⟩
end
def trk(h:Heap)(H:Hp):List Addr:=(List.range h.objs.size).filter λa=>(H a).isSome
def eZ(h:Heap)(H:Hp):Heap:=PySem.W.hideAll h (trk h H)
theorem Cj(h:Heap)(H:Hp):(eZ h H).objs.size=h.objs.size:=PySem.W.hideAll_size _ _
theorem Ck{h:Heap}{H:Hp}{b:Addr}{o:Obj}(e:h.get? b=some o)(n:H b=none):(eZ h H).get? b=some o :=
 PySem.W.hideAll_get _ e λa=>by
  have q:(H b).isSome=true:=(List.mem_filter.mp a).2;rw[n] at q;simp at q
theorem Cm{h:Heap}{H:Hp}{b:Addr}{o:Obj}(e:(eZ h H).get? b=some o):h.get? b=some o/\H b=none:=by
 have e':h.get? b=some o:=PySem.W.of_hideAll (trk h H) e;refine⟨e',?_⟩
 cases q:H b with
 |none=>rfl
 |some x =>
  have a:b∈trk h H:=List.mem_filter.mpr ⟨List.mem_range.mpr (zk e'),by simp[q]⟩;have z:(eZ h H).get? b=none:=PySem.W.hideAll_none (trk h H) a;rw[z] at e;cases e
def MN(g h:Heap)(L:Addr):List (Addr×Obj):=(List.range h.objs.size).filterMap λa=>if a=L\/(g.get? a).isSome=true then none else(h.get? a).map λo=>(a,o)
def rest(g h:Heap)(L d:Addr):List (Addr×Obj):=(MN g h L).filter λp=>decide (p.1≠d)
structure Mod(K:PySem.W.Frag)(mg:Str->Option Value)(base:Heap):Prop where
 kin:K.In base
 glob:base.Ns mainGlobals mg
 blt:∃mb,base.Ns builtinsNs mb/\∀x:Str,x≠"__name__"->mb x=bootBuiltins x
 nolimit:base.NoLimit
structure Cx where
 prog:Program
 w:World
 K:PySem.W.Frag
 mg:Str->Option Value
 base:Heap
 A:Around
 N:List Str
 s₀:Shared
 H₀:Hp
 env:Env
 outer:List Env
 stack:List Env
 ex:List Addr
 fn:Str->Bool
 calm:Bool
 pn:List (Addr×Obj)
 xe:Value->Shared->Prop
def frs(l:List Env):List Addr:=l.filterMap (·.frame)
abbrev Cx.fs(X:Cx):List Addr:=frs X.outer
def Vis(a:Scope)(x:Str):Prop:=a.names.lookup x=some .local\/a.names.lookup x=some .cell\/a.names.lookup x=some .free
def Loc(a:Scope)(x:Str):Prop:=a.names.lookup x=some .local\/a.names.lookup x=some .cell
def Look(env:Env)(h:Heap)(m:Str->Option Value)(x:Str)(u:Value):Prop :=
 (env.kindOf x=some .local/\m x=some u)\/((env.kindOf x=some .cell\/env.kindOf x=some .free)/\∃c,env.cells.lookup x=some c/\h.IsCell c (some u))
structure Cx.Ok(X:Cx):Prop where
 mod:Mod X.K X.mg X.base
 kind:X.env.scope.kind=.function
 glob:X.env.globals=mainGlobals
 blt:X.env.builtins=builtinsNs
 above:X.s₀.heap.objs.size<=X.env.locals
 inj:∀x y c,X.env.cells.lookup x=some c->X.env.cells.lookup y=some c->x=y
 has:∀x,(X.env.kindOf x=some .cell\/X.env.kindOf x=some .free)->∃c,X.env.cells.lookup x=some c
 cab:∀x c,X.fn x=true->X.env.cells.lookup x=some c->X.s₀.heap.objs.size<=c
 hd:X.calm=true->X.A.handled=none
 frames:X.A.frames=some X.stack
 stk:X.stack=X.outer\/(X.stack=X.env::X.outer/\X.env.frame=some X.env.locals)
 exf:∀b∈X.ex,b≠X.env.locals/\∀x c,X.env.cells.lookup x=some c->c≠b
 bs:∀b o,X.base.get? b=some o->X.s₀.heap.get? b=some o/\X.H₀ b=none
 bsz:X.base.objs.size<=X.s₀.heap.objs.size
 noex:∀b o,X.base.get? b=some o->b∉X.ex
 exfs:∀b∈X.ex,b∉X.fs
 funs:X.s₀.heap.FunFrames X.base X.outer
 frf:∀b∈X.fs,X.H₀ b=none
structure Inv(X:Cx)(pins:List (Addr×Obj))(σ:List (Option V))(H:Hp)(s:Shared):Prop where
 ok:X.Ok
 os:s.os=X.s₀.os
 bare:AllBare s.gens
 base:Un X.fs X.ex X.H₀ H X.s₀.heap s.heap
 loc:∃m,s.heap.Ns X.env.locals m/\∀(i:Nat) (x:Str) (v:V),X.N[i]?=some x->σ[i]?=some (some v)->Vis X.env.scope x->∃u,RelV v u/\Look X.env s.heap m x u
 cell:∀x c,X.env.cells.lookup x=some c->∃v,s.heap.IsCell c v
 free:H X.env.locals=none
 freeC:∀x c,X.env.cells.lookup x=some c->H c=none
 pin:∀p∈X.pn++pins,s.heap.get? p.1=some p.2/\H p.1=none/\p.1≠X.env.locals/\p.1∉X.fs/\∀v,p.2.data≠.cell v
 hok:HOk X.prog X.w H s.heap
 len:σ.length=X.N.length
section
variable {X:Cx}{pins:List (Addr×Obj)}{σ:List (Option V)}{H H':Hp}{s:Shared}{h':Heap}
theorem Cx.Ok.nofr(ok:X.Ok){b:Addr}{o:Obj}(e:X.base.get? b=some o):b∉X.fs:=λa=>by
 have:=(ok.funs.mem a).1
 rw[e] at this;cases this
theorem Inv.bs(I:Inv X pins σ H s):∀b o,X.base.get? b=some o->s.heap.get? b=some o/\H b=none:=λb o e =>
 ⟨I.base.keep b o (I.ok.bs b o e).1 (I.ok.bs b o e).2 (I.ok.nofr e) (I.ok.noex b o e),I.base.free b o (I.ok.bs b o e).1 (I.ok.bs b o e).2 (I.ok.noex b o e)⟩
theorem Inv.bk(I:Inv X pins σ H s):∀b o,X.base.get? b=some o->s.heap.get? b=some o:=λb o e=>(I.bs b o e).1
theorem Inv.mod(I:Inv X pins σ H s):Mod X.K X.mg X.base:=I.ok.mod
theorem Inv.kIn(I:Inv X pins σ H s):X.K.In s.heap:=I.ok.mod.kin.keeps I.bk
theorem Inv.nolimit(I:Inv X pins σ H s):s.heap.NoLimit:=I.ok.mod.nolimit.keeps I.bk
theorem Inv.fr(I:Inv X pins σ H s):∃m,Fr X.base X.env.locals s.heap m :=
 let ⟨m,hn,_⟩:=I.loc
 ⟨m,hn,I.bk,zG I.ok.bsz I.ok.above⟩
theorem Inv.lt(I:Inv X pins σ H s):X.env.locals<s.heap.objs.size:=let ⟨_,hn,_⟩:=I.loc;hn.lt
theorem Inv.sz(I:Inv X pins σ H s):X.s₀.heap.objs.size<=s.heap.objs.size:=zG I.ok.above (Nat.le_of_lt I.lt)
theorem Inv.nofs(I:Inv X pins σ H s){a:Addr}(h:s.heap.objs.size<=a):a∉X.fs:=λd=>by
 obtain⟨_,o,c,_⟩:=I.ok.funs.mem d;exact absurd (zF (zk c) (zG I.sz h)) (zY _)
theorem Inv.cne(I:Inv X pins σ H s):∀x c,X.env.cells.lookup x=some c->c≠X.env.locals:=λx c e z=>by
 obtain⟨v,o,f,hd⟩:=I.cell x c e;obtain⟨m,⟨g,j,l,a,d,_⟩,_⟩:=I.loc;rw[z,a] at f;cases f;rw[d] at hd;cases hd
theorem Inv.funs(I:Inv X pins σ H s):s.heap.FunFrames X.base X.outer:=by
 have all:∀(l:List Env),(∀b∈frs l,b∈X.fs)->X.s₀.heap.FunFrames X.base l->s.heap.FunFrames X.base l:=by
  intro l
  induction l with
  |nil=>intro _ _;trivial
  |cons env r ih =>
   intro f n;obtain⟨q,⟨L,o,a,m,j,hd⟩,g⟩:=n;have d:L∈X.fs:=f L (by unfold frs;rw[List.filterMap_cons,a];exact zg)
   obtain⟨sl,e⟩:=I.base.slot L o j (I.ok.frf L d) d λz=>I.ok.exfs L z d
   exact⟨q,⟨L,_,a,m,e,hd⟩,ih (λb c=>f b (by unfold frs;rw[List.filterMap_cons,a];exact zq _ c)) g⟩
 exact all X.outer (λ_ c=>c) I.ok.funs
theorem Inv.stack(I:Inv X pins σ H s):s.heap.FunFrames X.base X.stack:=by
 rcases I.ok.stk with e | ⟨e,c⟩
 ·rw[e];exact I.funs
 ·rw[e];obtain⟨m,a,_⟩:=I.loc;refine .cons (by rw[I.ok.kind];decide) c a ?_ I.funs;exact Heap.get?_none_of_le (zG I.ok.bsz I.ok.above)
theorem Inv.stkSub(I:Inv X pins σ H s):∀b∈frs X.stack,b∈X.env.locals::X.fs:=λb a=>by
 rcases I.ok.stk with e | ⟨e,c⟩
 ·rw[e] at a;exact zq _ a
 ·rw[e] at a;unfold frs at a;rw[List.filterMap_cons,c] at a;exact a
theorem Inv.stkFree(I:Inv X pins σ H s):∀b∈frs X.stack,H b=none:=λb a=>by
 rcases zp.mp (I.stkSub b a) with e | a
 ·rw[e];exact I.free
 ·obtain⟨_,o,c,_⟩:=I.ok.funs.mem a
  exact I.base.free b o c (I.ok.frf b a) λz=>I.ok.exfs b z a
theorem Inv.step{g':Array GenState}{t':Nat}{d':Drawn}{ch:List Addr}(I:Inv X pins σ H s)
  (g:∀b∈ch,(b∈X.ex\/X.s₀.heap.objs.size<=b)/\b≠X.env.locals/\(∀x c,X.env.cells.lookup x=some c->c≠b)/\∀p∈X.pn++pins,p.1≠b)
  (keep:∀b o,b≠X.env.locals->b∉X.fs->b∉ch->s.heap.get? b=some o->H b=none->h'.get? b=some o)
  (slot:∀b o,b≠X.env.locals->b∈X.fs->b∉ch->s.heap.get? b=some o->H b=none->∃sl,h'.get? b=some {o with slots:=sl}) (free:∀b o,b∉ch->s.heap.get? b=some o->H b=none->H' b=none)
  (there:∀b o,b∉ch->s.heap.get? b=some o->∃E,h'.get? b=some E)
  (tups:∀b xs,H b=some (.tup xs)->H' b=some (.tup xs)) (frzs:∀b o u,H b=some (.frz o u)->H' b=some (.frz o u)) (tbls:∀b ps,H b=some (.tbl ps)->∃more,H' b=some (.tbl (ps++more)))
  (ns:∀m,s.heap.Ns X.env.locals m->h'.Ns X.env.locals m) (hok:HOk X.prog X.w H' h') (U:AllBare g'):
  Inv X pins σ H' {s with heap:=h',gens:=g',drawn:=d',toks:=t'}:=by
 have G:∀b o,X.s₀.heap.get? b=some o->b≠X.env.locals:=λb o e=>zo (zF (zk e) I.ok.above)
 have y:∀b o,X.s₀.heap.get? b=some o->b∉X.ex->b∉ch:=λb o e a B=>by
  rcases(g b B).1 with z | z
  ·exact a z
  ·exact absurd (zF (zk e) z) (zY _)
 have cellK:∀x c,X.env.cells.lookup x=some c->∀v,s.heap.IsCell c v->h'.IsCell c v:=λx c e v ⟨o,C,hd⟩=>by
  have f:c∉ch:=λz=>(g c z).2.2.1 x c e rfl
  by_cases O:c∈X.fs
  ·obtain⟨sl,q⟩:=slot c o (I.cne x c e) O f C (I.freeC x c e);exact⟨_,q,hd⟩
  ·exact⟨o,keep c o (I.cne x c e) O f C (I.freeC x c e),hd⟩
 refine⟨I.ok,I.os,U,⟨λb o e n B a=>?_,λb o e n B a=>?_,λb o e n a=>?_,λb o e a=>?_,λb xs e=>tups b xs (I.base.tups b xs e),λb o xs e=>frzs b o xs (I.base.frzs b o xs e),λb ps e=>?_⟩,?_,λx c e=>?_,?_,λx c e=>?_,λp L=>?_,hok,I.len⟩
 ·exact keep b o (G b o e) B (y b o e a) (I.base.keep b o e n B a) (I.base.free b o e n a)
 ·obtain⟨sl,j⟩:=I.base.slot b o e n B a;obtain⟨J,F⟩:=slot b _ (G b o e) B (y b o e a) j (I.base.free b o e n a);exact⟨J,F⟩
 ·obtain⟨E,j⟩:=I.base.there b o e a;exact free b E (y b o e a) j (I.base.free b o e n a)
 ·obtain⟨E,j⟩:=I.base.there b o e a;exact there b E (y b o e a) j
 ·obtain⟨Q,j⟩:=I.base.tbls b ps e;obtain⟨P,F⟩:=tbls b _ j;exact⟨Q++P,by rw[F,Array.append_assoc]⟩
 ·obtain⟨m,R,T⟩:=I.loc;refine⟨m,ns m R,λi x v j F W=>?_⟩;obtain⟨u,r,l⟩:=T i x v j F W;refine⟨u,r,?_⟩
  rcases l with l | ⟨k,c,e,z⟩
  ·exact .inl l
  ·exact .inr ⟨k,c,e,cellK x c e _ z⟩
 ·obtain⟨v,z⟩:=I.cell x c e;exact⟨v,cellK x c e v z⟩
 ·obtain⟨m,⟨o,_,_,C,_⟩,_⟩:=I.loc;exact free _ o (λz=>(g _ z).2.1 rfl) C I.free
 ·obtain⟨v,o,C,hd⟩:=I.cell x c e;exact free c o (λz=>(g c z).2.2.1 x c e rfl) C (I.freeC x c e)
 ·obtain⟨e,n,ne,nf,d⟩:=I.pin p L
  have f:p.1∉ch:=λz=>(g p.1 z).2.2.2 p L rfl
  exact⟨keep p.1 p.2 ne nf f e n,free p.1 p.2 f e n,ne,nf,d⟩
theorem Inv.un{t':Nat}(I:Inv X pins σ H s)(u:Un X.fs [] H H' s.heap h')(hok:HOk X.prog X.w H' h'):Inv X pins σ H' {s with heap:=h',toks:=t'}:=by
 obtain⟨m,⟨o,B,C,g,r⟩,_⟩:=id I.loc;obtain⟨sl,q⟩:=u.any g I.free (by simp)
 exact I.step (g':=s.gens) (d':=s.drawn) (ch:=[]) (λ_ z=>nomatch z) (λb o _ c _ e n=>u.keep b o e n c (by simp)) (λb o _ c _ e n=>u.slot b o e n c (by simp)) (λb o _ e n=>u.free b o e n (by simp)) (λb o _ e=>u.there b o e (by simp)) u.tups u.frzs u.tbls (λy l=>by
  obtain⟨x,d,f,a,j⟩:=l;rw[g] at a;cases a
  exact⟨_,d,f,q,j⟩) hok I.bare
theorem Inv.call{g':Array GenState}{t':Nat}{d':Drawn}{ch:List Addr}(I:Inv X pins σ H s)(u:Un (frs X.stack) ch H H' s.heap h')(hok:HOk X.prog X.w H' h')(C:AllBare g')
  (f:∀b∈ch,(b∈X.ex\/X.s₀.heap.objs.size<=b)/\b≠X.env.locals/\(∀x c,X.env.cells.lookup x=some c->c≠b)/\∀p∈X.pn++pins,p.1≠b):
  Inv X pins σ H' {s with heap:=h',gens:=g',drawn:=d',toks:=t'}:=by
 obtain⟨m,⟨o,J,L,q,r⟩,_⟩:=id I.loc
 obtain⟨sl,g⟩:=u.any q I.free λz=>(f _ z).2.1 rfl
 exact I.step (ch:=ch) f (λb o g E a e n=>u.keep b o e n (λz=>(zp.mp (I.stkSub b z)).elim g E) a) (λb o _ _ a e n=>u.any e n a) (λb o a e n=>u.free b o e n a) (λb o a e=>u.there b o e a) u.tups u.frzs u.tbls (λG B=>by
  obtain⟨F,j,l,d,y⟩:=B;rw[q] at d;cases d
  exact⟨_,j,l,g,y⟩) hok C
theorem Inv.turned{t':Nat}{it:Addr}(I:Inv X pins σ H s)(k:∀b o,b≠it->s.heap.get? b=some o->h'.get? b=some o)(j:H it=none)(f:it≠X.env.locals)
  (h1:it∈X.ex\/X.s₀.heap.objs.size<=it) (h2:∀x c,X.env.cells.lookup x=some c->c≠it) (h3:∀p∈X.pn++pins,p.1≠it):Inv X pins σ H {s with heap:=h',toks:=t'}:=by
 have d:∀b u,H b=some u->b≠it:=λb u e z=>by rw[z,j] at e;cases e
 refine I.step (g':=s.gens) (d':=s.drawn) (ch:=[it]) (λb y=>?_) (λb o _ _ a e _=>k b o (λz=>a (by simp[z])) e) (λb o _ _ a e _=>⟨o.slots,k b o (λz=>a (by simp[z])) e⟩) (λ_ _ _ _ n=>n)
  (λb o a e=>⟨o,k b o (λz=>a (by simp[z])) e⟩) (λ_ _ e=>e) (λ_ _ _ e=>e) (λb E e=>⟨#[],by rw[e];simp⟩) (λm l=>?_) (λb u e=>?_) I.bare
 ·have e:b=it:=by simpa using y
  subst e;exact⟨h1,f,h2,h3⟩
 ·obtain⟨o,B,C,g,r⟩:=l;exact⟨o,B,C,k _ o (Ne.symm f) g,r⟩
 ·refine(I.hok b u e).stay (λc v a q=>k c v ?_ q) (λ_ q=>q) λ_ _ q=>q
  rcases a with z | z
  ·rw[z];exact d b u e
  ·exact d c _ z
theorem Inv.tok(I:Inv X pins σ H s)(t:Nat):Inv X pins σ H {s with toks:=t}:=I.un (h':=s.heap) (t':=t) Un.refl I.hok
theorem Inv.kept{t':Nat}(I:Inv X pins σ H s)(k:∀b u,s.heap.get? b=some u->h'.get? b=some u):Inv X pins σ H {s with heap:=h',toks:=t'}:=I.un (Un.kept k) (I.hok.kept k)
theorem Inv.laid{a:Addr}{o:HO}{t':Nat}(I:Inv X pins σ H s)(k:∀b u,s.heap.get? b=some u->h'.get? b=some u)(c:s.heap.objs.size<=a)(d:bW X.prog X.w (upd H a o) h' a o):
  Inv X pins σ (upd H a o) {s with heap:=h',toks:=t'}:=I.un (Un.laid k c (I.hok.fresh c)) (I.hok.laid k c d)
theorem Inv.write{x e:Addr}{o:HO}{t':Nat}(I:Inv X pins σ H s)(d:Mut (H x))(f:e=x\/H e=some (.own x))(k:∀b u,b≠e->s.heap.get? b=some u->h'.get? b=some u)(a:∃u,h'.get? e=some u)
  (c:bW X.prog X.w (upd H x o) h' x o):Inv X pins σ (upd H x o) {s with heap:=h',toks:=t'}:=I.un (Un.write d f k a) (I.hok.write d f k a c)
theorem Inv.pins_of{a:List (Addr×Obj)}(I:Inv X pins σ H s)(h:∀p∈a,s.heap.get? p.1=some p.2/\H p.1=none/\p.1≠X.env.locals/\p.1∉X.fs/\∀v,p.2.data≠.cell v):Inv X a σ H s :=
 ⟨I.ok,I.os,I.bare,I.base,I.loc,I.cell,I.free,I.freeC,λp c=>(zC.mp c).elim (λz=>I.pin p (List.mem_append_left _ z)) (h p),I.hok,I.len⟩
theorem Cq{N:List Str}(hN:N.Nodup){i j:Nat}{x:Str}(a:N[i]?=some x)(b:N[j]?=some x):i=j:=by
 obtain⟨h1,d⟩:=zr.mp a;obtain⟨h2,c⟩:=zr.mp b;exact(List.getElem_inj hN).mp (d.trans c.symm)
theorem MP{M:Model}{A:Around}{E:Value->Shared->Prop}{i:Nat}{x:Str}{v:V}{u:Value}{Q:Unit->Shared->Prop}(I:Inv X pins σ H s)(hN:X.N.Nodup)(R:X.N[i]?=some x)(B:Loc X.env.scope x)(r:RelV v u)
  (h:∀s',Inv X pins (σ.set i (some v)) H s'->(∃a,Heap.SameBut a s.heap s'.heap/\(a=X.env.locals\/X.env.cells.lookup x=some a))->Q () s') (hf:X.fn x=true\/X.env.scope.names.lookup x=some .local:=by first | exact .inl rfl | exact .inr rfl | assumption):wpAny M A (storeName X.env x u) Q E s:=by
 obtain⟨m,hn,hl⟩:=id I.loc
 have Z:(X.env.scope.kind == .class || (X.env.scope.kind == .module&&X.env.locals != X.env.globals))=false:=by rw[I.ok.kind];rfl
 have J:i<σ.length:=by rw[I.len];exact(zr.mp R).1
 have cne:=I.cne
 have tracked:∀{a:Addr}{h':Heap},(∃o,s.heap.get? a=some o/\H a=none)->Heap.SameBut a s.heap h'->HOk X.prog X.w H h':=λ{a h'} ha f b ob e=>by
  obtain⟨_,_,C⟩:=ha
  refine(I.hok b ob e).stay (λc w' l q=>(f.2 c ?_).trans q) (λ_ q=>q) λ_ _ q=>q
  rintro rfl
  rcases l with rfl | l
  ·rw[C] at e;cases e
  ·rw[C] at l;cases l
 rcases B with G | G
 ·refine wpAny_storeName_local G hn (λh' hn' f=>?_) Z;obtain⟨oL,_,_,hoL,_⟩:=id hn;refine h _ ⟨I.ok,I.os,I.bare,⟨λb o e n O B=>?_,λb o e n O B=>?_,I.base.free,λb o e B=>?_,I.base.tups,I.base.frzs,I.base.tbls⟩,⟨_,hn',λj y v' g F e3=>?_⟩,λy c e=>?_,I.free,I.freeC,λp hp=>?_,tracked ⟨oL,hoL,I.free⟩ f,by simpa using I.len⟩ ⟨_,f,.inl rfl⟩
  ·exact(f.2 b (zo (zF (zk e) I.ok.above))).trans (I.base.keep b o e n O B)
  ·obtain⟨sl,g⟩:=I.base.slot b o e n O B;exact⟨sl,(f.2 b (zo (zF (zk e) I.ok.above))).trans g⟩
  ·obtain⟨o',g⟩:=I.base.there b o e B;exact⟨o',(f.2 b (zo (zF (zk e) I.ok.above))).trans g⟩
  ·by_cases L:j=i
   ·subst L;rw[R] at g;cases g;rw[zP J] at F;cases F;exact⟨u,r,.inl ⟨G,by simp⟩⟩
   ·rw[zt (Ne.symm L)] at F;obtain⟨u',r',q⟩:=hl j y v' g F e3;refine⟨u',r',?_⟩
    rcases q with⟨k,e⟩ | ⟨k,c,e,z⟩
    ·refine .inl ⟨k,?_⟩
     have:y≠x:=λe=>L (Cq hN g (e ▸ R))
     simp[this,e]
    ·exact .inr ⟨k,c,e,z.sameBut f (cne y c e)⟩
  ·obtain⟨w',z⟩:=I.cell y c e;exact⟨w',z.sameBut f (cne y c e)⟩
  ·obtain⟨e,n,ne,nf,d⟩:=I.pin p hp;exact⟨(f.2 p.1 ne).trans e,n,ne,nf,d⟩
 ·have P:X.fn x=true:=by
   rcases hf with z | z
   ·exact z
   ·rw[z] at G;cases G
  obtain⟨c,l⟩:=I.ok.has x (.inl G);obtain⟨w',z⟩:=I.cell x c l;refine wpAny_storeName_cell I.ok.kind G l z (λh' W f=>?_);obtain⟨oc,T,Y⟩:=id z;refine h {s with heap:=h'} ⟨I.ok,I.os,I.bare,⟨λb o e n O B=>?_,λb o e n O B=>?_,I.base.free,λb o e B=>?_,I.base.tups,I.base.frzs,I.base.tbls⟩,⟨m,hn.sameBut f (Ne.symm (cne x c l)),λj y v' g F e3=>?_⟩,λy c' e=>?_,I.free,I.freeC,λp hp=>?_,tracked ⟨oc,T,I.freeC x c l⟩ f,by simpa using I.len⟩ ⟨c,f,.inr l⟩
  ·exact(f.2 b (zo (zF (zk e) (I.ok.cab x c P l)))).trans (I.base.keep b o e n O B)
  ·obtain⟨sl,g⟩:=I.base.slot b o e n O B;exact⟨sl,(f.2 b (zo (zF (zk e) (I.ok.cab x c P l)))).trans g⟩
  ·obtain⟨o',g⟩:=I.base.there b o e B;exact⟨o',(f.2 b (zo (zF (zk e) (I.ok.cab x c P l)))).trans g⟩
  ·by_cases L:j=i
   ·subst L;rw[R] at g;cases g;rw[zP J] at F;cases F;exact⟨u,r,.inr ⟨.inl G,c,l,W⟩⟩
   ·rw[zt (Ne.symm L)] at F;obtain⟨u',r',q⟩:=hl j y v' g F e3;refine⟨u',r',?_⟩
    rcases q with q | ⟨k,c',e,z'⟩
    ·exact .inl q
    ·refine .inr ⟨k,c',e,z'.sameBut f ?_⟩;rintro rfl;exact L (Cq hN g (I.ok.inj _ _ _ e l ▸ R))
  ·by_cases U:c'=c
   ·subst U;exact⟨_,W⟩
   ·obtain⟨w2,z2⟩:=I.cell y c' e;exact⟨w2,z2.sameBut f U⟩
  ·obtain⟨e,n,ne,nf,d⟩:=I.pin p hp;refine⟨(f.2 p.1 ?_).trans e,n,ne,nf,d⟩;intro q;rw[q,T] at e;have q':oc=p.2:=zz e;exact d w' (by rw[<-q'];exact Y)
theorem uY{M:Model}{A:Around}{E:Value->Shared->Prop}{i:Nat}{x:Str}{v:V}{u:Value}{Q:Unit->Shared->Prop}(I:Inv X pins σ H s)(hN:X.N.Nodup)(d:X.N[i]?=some x)(c:Loc X.env.scope x)(r:RelV v u)
  (h:∀a,Inv X pins (σ.set i (some v)) H a->Q () a) (f:X.fn x=true\/X.env.scope.names.lookup x=some .local:=by first | exact .inl rfl | exact .inr rfl | assumption):wpAny M A (storeName X.env x u) Q E s :=
 MP I hN d c r (λa I' _=>h a I') f
theorem Inv.call'{a:Shared}{ch:List Addr}(I:Inv X pins σ H s)(g:a.os=s.os)(u:Un (frs X.stack) ch H H' s.heap a.heap)(hok:HOk X.prog X.w H' a.heap)(j:AllBare a.gens)
  (d:∀b∈ch,(b∈X.ex\/X.s₀.heap.objs.size<=b)/\b≠X.env.locals/\(∀x c,X.env.cells.lookup x=some c->c≠b)/\∀p∈X.pn++pins,p.1≠b):Inv X pins σ H' a:=by
 obtain⟨h',g',d',t',f⟩:=a;have e:f=s.os:=g;subst e;exact I.call (g':=g') (t':=t') (d':=d') u hok j d
end
abbrev XK:=Value->Option Addr->Hp->Prop
abbrev St:=List (Option V)
abbrev VK:=V->Hp->Prop
abbrev TE:=St->Hp->VK->Prop
abbrev TT:=St->Hp->(Bool->Hp->Prop)->Prop
abbrev TA:=St->Hp->(List V->Hp->Prop)->Prop
structure Ends where
 nx:St->Hp->Prop
 rt:VK
 bk:St->Hp->Prop:=λ_ _=>False
 ct:St->Hp->Prop:=λ_ _=>False
abbrev TS:=Ends->St->Hp->Prop
def EP(X:Cx)(pins:List (Addr×Obj))(σ:St)(Q:VK)(u:Value)(c:Shared):Prop:=∃v a,Inv X pins σ a c/\RelV v u/\Q v a
def TP(X:Cx)(pins:List (Addr×Obj))(σ:St)(Q:Bool->Hp->Prop)(b:Bool)(c:Shared):Prop:=∃a,Inv X pins σ a c/\Q b a
def AP(X:Cx)(pins:List (Addr×Obj))(σ:St)(Q:List V->Hp->Prop)(us:List Value)(d:Shared):Prop:=∃a c,Inv X pins σ c d/\aN a us/\Q a c
def SP(X:Cx)(pins:List (Addr×Obj))(D:Ends)(f:Flow)(d:Shared):Prop :=
 match f with
 | .next=>∃a c,Inv X pins a c d/\D.nx a c
 | .brk=>∃a c,Inv X pins a c d/\D.bk a c
 | .cont=>∃a c,Inv X pins a c d/\D.ct a c
 | .ret u=>∃v a c,Inv X pins a c d/\RelV v u/\D.rt v c
def PE(X:Cx)(e:Expr)(t:TE):Prop :=
 ∀(pins:List (Addr×Obj)) (s:Shared) (σ:St) (H:Hp) (Q:VK),Inv X pins σ H s->t σ H Q->wpAny (model X.prog X.w) X.A (eval e X.env) (EP X pins σ Q) X.xe s
def PT(X:Cx)(e:Expr)(t:TT):Prop :=
 ∀(pins:List (Addr×Obj)) (s:Shared) (σ:St) (H:Hp) (Q:Bool->Hp->Prop),Inv X pins σ H s->t σ H Q->wpAny (model X.prog X.w) X.A (isTrue e X.env (eval e X.env)) (TP X pins σ Q) X.xe s
def PW(X:Cx)(e:Expr)(t:TT):Prop :=
 ∀(whole:Sem Value) (pins:List (Addr×Obj)) (s:Shared) (σ:St) (H:Hp) (Q:Bool->Hp->Prop),Inv X pins σ H s->t σ H Q->wpAny (model X.prog X.w) X.A (isTrue e X.env whole) (TP X pins σ Q) X.xe s
theorem PW.pt{X:Cx}{e:Expr}{t:TT}(h:PW X e t):PT X e t:=h _
def PA(X:Cx)(es:List Expr)(t:TA):Prop :=
 ∀(a:Pos) (pins:List (Addr×Obj)) (s:Shared) (σ:St) (H:Hp) (Q:List V->Hp->Prop),Inv X pins σ H s->t σ H Q->wpAny (model X.prog X.w) X.A (spliced (backTo a (starEach es X.env))) (AP X pins σ Q) X.xe s
def PS(X:Cx)(st:Stmt)(t:TS):Prop :=
 ∀(pins:List (Addr×Obj)) (s:Shared) (σ:St) (H:Hp) (D:Ends),Inv X pins σ H s->t D σ H->wpAny (model X.prog X.w) X.A (exec st X.env) (SP X pins D) X.xe s
def PSs(X:Cx)(st:List Stmt)(t:TS):Prop :=
 ∀(pins:List (Addr×Obj)) (s:Shared) (σ:St) (H:Hp) (D:Ends),Inv X pins σ H s->t D σ H->wpAny (model X.prog X.w) X.A (execs st X.env) (SP X pins D) X.xe s
theorem thn{α:Type}{t:Sem α}{Q c:α->Shared->Prop}{M:Model}{A:Around}{E:Value->Shared->Prop}{s:Shared}(h:wpAny M A t Q E s)(d:∀a s,Q a s->c a s):wpAny M A t c E s:=zM h d λ_ _ x=>x
section
variable {X:Cx}
def MT(i:Nat):TE:=λσ H Q=>∃v,σ[i]?=some (some v)/\Q v H
def tC(v:V):TE:=λ_ H Q=>Q v H
theorem kJ{i:Nat}{x:Str}{g:Pos}(hN:X.N[i]?=some x)(hv:Vis X.env.scope x)(hd:(x == ("__debug__":Str))=false:=by decide)(j:(x == ("__classdict__":Str))=false:=by decide):PE X (.Name x g) (MT i):=by
 intro pins s σ H Q I h;obtain⟨v,e,h⟩:=h;obtain⟨m,q,B⟩:=I.loc;obtain⟨u,r,l⟩:=B i x v hN e hv;have f:EP X pins σ Q u s:=⟨v,H,I,r,h⟩
 rcases l with⟨d,y⟩ | ⟨d,c,n,a⟩
 ·exact wpAny_Name (wpAny_loadName_local I.ok.kind d q y f) hd
 ·rcases d with d | d
  ·exact wpAny_Name (wpAny_loadName_cell I.ok.kind d n a f) hd
  ·exact wpAny_Name (wpAny_loadName_free I.ok.kind d n a f j) hd
theorem M4{i j pos}:PE X (.Constant (.int i) j pos) (tC (.int i)):=λ_ _ _ H _ I h=>wpAny_Constant_int ⟨.int i,H,I.tok _,⟨_,rfl⟩,h⟩
theorem M5{b j pos}:PE X (.Constant (.bool b) j pos) (tC (.bl b)):=λ_ _ _ H _ I h=>Constant_bool ⟨.bl b,H,I,rfl,h⟩
theorem M6{j pos}:PE X (.Constant .none j pos) (tC .non):=λ_ _ _ H _ I h=>Constant_none ⟨.non,H,I,rfl,h⟩
theorem Cr{x j pos}:PE X (.Constant (.str x) j pos) (tC (.str x)):=λ_ _ _ H _ I h=>Calls.Constant_str ⟨.str x,H,I.tok _,⟨_,rfl⟩,h⟩
def Gl(X:Cx)(x:Str):Prop:=X.env.kindOf x=some .globalImplicit
theorem qJ{E:Value->Shared->Prop}{pins:List (Addr×Obj)}{s:Shared}{σ:St}{H:Hp}{x:Str}{u:Value}{a:Pos}{Q:Value->Shared->Prop}(I:Inv X pins σ H s)(d:Gl X x)(c:X.mg x=some u)(h:Q u s)
  (hd:(x == ("__debug__":Str))=false:=by decide):wpAny (model X.prog X.w) X.A (eval (.Name x a) X.env) Q E s :=
 Calls.Name_function_global I.ok.kind d (Calls.loadGlobal_global (by rw[I.ok.glob];exact I.mod.glob.keeps I.bk) c h) hd
theorem oF{E:Value->Shared->Prop}{pins:List (Addr×Obj)}{s:Shared}{σ:St}{H:Hp}{x:Str}{u:Value}{a:Pos}{Q:Value->Shared->Prop}(I:Inv X pins σ H s)(f:Gl X x)(d:X.mg x=none)(hv:bootBuiltins x=some u)(h:Q u s)
  (c:x≠"__name__":=by decide) (hd:(x == ("__debug__":Str))=false:=by decide):wpAny (model X.prog X.w) X.A (eval (.Name x a) X.env) Q E s:=by
 obtain⟨mb,h1,h2⟩:=I.mod.blt;exact Calls.Name_function_global I.ok.kind f (Calls.loadGlobal_builtin (by rw[I.ok.glob];exact I.mod.glob.keeps I.bk) d (by rw[I.ok.blt];exact h1.keeps I.bk) ((h2 x c).trans hv) h) hd
theorem M7{x:Str}{v:V}{u:Value}{a:Pos}(d:Gl X x)(c:X.mg x=some u)(r:RelV v u)(hd:(x == ("__debug__":Str))=false:=by decide):PE X (.Name x a) (tC v):=
 λ_ _ _ H _ I h=>qJ I d c ⟨v,H,I,r,h⟩ hd
variable {a b:Expr}{ta tb:TE}{pos:Pos}
def PC(X:Cx)(op:CmpOp)(a b:Expr)(t:TE):Prop :=
 ∀(pins:List (Addr×Obj)) (s:Shared) (σ:St) (H:Hp) (Q:VK),Inv X pins σ H s->t σ H Q ->
  wpAny (model X.prog X.w) X.A (eval a X.env) (λv d=>wpAny (model X.prog X.w) X.A (eval b X.env) (λu c=>wpAny (model X.prog X.w) X.A (compareOp op v u) (EP X pins σ Q) X.xe c) X.xe d) X.xe s
theorem M8(b:Expr){op:CmpOp}(h:op≠.In)(h2:op≠.NotIn):behindInMarks op b=false:=by
 have d:(op == CmpOp.In)=false:=by cases op<;>first | rfl | exact absurd rfl h
 have c:(op == CmpOp.NotIn)=false:=by cases op<;>first | rfl | exact absurd rfl h2
 cases b<;>simp[behindInMarks,d,c]
def Cu(ta:TE):TE:=λσ H Q=>ta σ H λx c=>Q (.bl (decide (x=.non))) c
def Cv(ta:TE):TE:=λσ H Q=>ta σ H λx c=>Q (.bl (!decide (x=.non))) c
theorem RelV.none_iff{x:V}{v:Value}(r:RelV x v):(v == Value.none)=decide (x=.non):=by
 cases x with
 |non=>cases r;rfl
 |bl _=>cases r;rfl
 |int _=>obtain⟨t,rfl⟩:=r;rfl
 |str _=>obtain⟨t,rfl⟩:=r;rfl
 |byt _=>obtain⟨t,rfl⟩:=r;rfl
 |flt _=>obtain⟨t,rfl⟩:=r;rfl
 |ref _=>cases r;rfl
 |ty _=>cases r;rfl
theorem M9{j pos'}(c:PE X a ta):PC X .Is a (.Constant .none j pos') (Cu ta):=by
 intro pins s σ H Q I h
 refine thn (c pins s σ H _ I h) λv s1 ⟨x,H1,I1,r1,q1⟩=>?_
 exact Constant_none (is_none_gen ⟨.bl _,H1,I1,by rw[r1.none_iff];rfl,q1⟩)
theorem Nb{j pos'}(c:PE X a ta):PC X .IsNot a (.Constant .none j pos') (Cv ta):=by
 intro pins s σ H Q I h
 refine thn (c pins s σ H _ I h) λv s1 ⟨x,H1,I1,r1,q1⟩=>?_
 exact Constant_none (isnot_none_gen ⟨.bl _,H1,I1,by rw[r1.none_iff];rfl,q1⟩)
def tB(t:TE):TT:=λσ H Q=>t σ H λx d=>∃c,x=.bl c/\Q c d
theorem Cw{op:CmpOp}{t:TE}(h:PC X op a b t)(h1:behindInMarks op b=false:=by first | exact M8 _ (by decide) (by decide) | rfl):PT X (.Compare a [op] [b] pos) (tB t):=by
 intro pins s σ H Q I f;refine wpAny_isTrue_Compare1 (thn (h pins s σ H _ I f) λv j h1=>thn h1 λu g h2=>thn h2 λc s3 ⟨x,H1,I1,r1,q1⟩=>?_) h1;obtain⟨d,rfl,q⟩:=q1;cases r1;exact wpAny_truthy_bool ⟨H1,I1,q⟩
variable {tA tB':TT}{rest:List Expr}
def Cy(t u:TT):TT:=λσ H Q=>t σ H λc d=>if c=true then u σ d Q else Q false d
def tOr(t u:TT):TT:=λσ H Q=>t σ H λc d=>if c=true then Q true d else u σ d Q
def Nf(t:TT):TT:=λσ H Q=>t σ H λc d=>Q (!c) d
theorem Ng(d:PT X a tA):PW X (.BoolOp .And [a] pos) tA:=by
 intro f pins s σ H Q I h;refine isTrue_and (thn (d pins s σ H Q I h) λc g e=>?_)
 cases c with
 |true=>exact isTrue_and_nil e
 |false=>exact e
theorem Nh(d:PT X a tA):PW X (.BoolOp .Or [a] pos) tA:=by
 intro f pins s σ H Q I h;refine isTrue_or (thn (d pins s σ H Q I h) λc g e=>?_)
 cases c with
 |false=>exact isTrue_or_nil e
 |true=>exact e
theorem Ni(g:PT X a tA)(f:PW X (.BoolOp .And (b::rest) pos) tB'):PW X (.BoolOp .And (a::b::rest) pos) (Cy tA tB'):=by
 intro d pins s σ H Q I h;refine isTrue_and (thn (g pins s σ H _ I h) λc s1 ⟨H1,I1,q1⟩=>?_)
 cases c with
 |true=>exact f d pins s1 σ H1 Q I1 q1
 |false=>exact⟨H1,I1,q1⟩
theorem Nj(g:PT X a tA)(f:PW X (.BoolOp .Or (b::rest) pos) tB'):PW X (.BoolOp .Or (a::b::rest) pos) (tOr tA tB'):=by
 intro d pins s σ H Q I h;refine isTrue_or (thn (g pins s σ H _ I h) λc s1 ⟨H1,I1,q1⟩=>?_)
 cases c with
 |true=>exact⟨H1,I1,q1⟩
 |false=>exact f d pins s1 σ H1 Q I1 q1
theorem Nk(d:PT X a tA):PT X (.UnaryOp .Not a pos) (Nf tA):=by
 intro pins s σ H Q I h;exact isTrue_not (d pins s σ H (λc f=>Q (!c) f) I h)
def Nm(ta tb:TE):TE:=λσ H Q=>ta σ H λx d=>∃c,x=.bl c/\if c=true then tb σ d Q else Q (.bl false) d
theorem Np{op}{t:TE}(h:PE X a t):PE X (.BoolOp op [a] pos) t:=λpins s σ H Q I c=>BoolOp_one (h pins s σ H Q I c)
theorem Nq(g:PE X a ta)(f:PE X (.BoolOp .And (b::rest) pos) tb):PE X (.BoolOp .And (a::b::rest) pos) (Nm ta tb):=by
 intro pins s σ H Q I h;refine BoolOp_and (thn (g pins s σ H _ I h) λv s1 ⟨x,H1,I1,r1,d⟩=>?_);obtain⟨c,rfl,d⟩:=d;cases r1;refine wpAny_truthy_bool ?_
 cases c with
 |true=>exact f pins s1 σ H1 Q I1 d
 |false=>exact⟨.bl false,H1,I1,rfl,d⟩
def tIf(t:TT)(ta tb:TE):TE:=λσ H Q=>t σ H λc d=>if c=true then ta σ d Q else tb σ d Q
theorem Nr{c:Expr}(f:PT X c tA)(j:PE X a ta)(g:PE X b tb):PE X (.IfExp c a b pos) (tIf tA ta tb):=by
 intro pins s σ H Q I h;refine wpAny_IfExp (thn (f pins s σ H _ I h) λd s1 ⟨H1,I1,q1⟩=>?_)
 cases d with
 |true=>exact j pins s1 σ H1 Q I1 q1
 |false=>exact g pins s1 σ H1 Q I1 q1
end
def SqL(K:PySem.W.Frag)(H:Hp)(a:Addr)(xs:List V):Prop :=
 Rd H a (.lst xs) \/
  ∃(o:Obj) (c:Array Value) (n:Nat),K.lookup a=some o/\o.cls=.type "list"/\o.dict=none/\o.data=.seq c n/\c.size<=sizeLine/\aN xs c.toList
def SqT(K:PySem.W.Frag)(H:Hp)(a:Addr)(xs:List V):Prop :=
 Rd H a (.tup xs) \/
  ∃(o:Obj) (c:Array Value) (n:Nat),K.lookup a=some o/\o.cls=.type "tuple"/\o.data=.seq c n/\c.size<=sizeLine/\aN xs c.toList
def Nt:Value->Option V
 | .none=>some .non
 | .bool b=>some (.bl b)
 | .int i _=>some (.int i)
 | .str x _=>some (.str x)
 | .bytes b _=>some (.byt b)
 | .float b _=>some (.flt b)
 | .ref a=>some (.ref a)
 | .type n=>some (.ty n)
 | _=>none
theorem RelV.abs{x:V}{u:Value}(r:RelV x u):Nt u=some x:=by
 cases x with
 |non=>cases r;rfl
 |bl _=>cases r;rfl
 |int _=>obtain⟨t,rfl⟩:=r;rfl
 |str _=>obtain⟨t,rfl⟩:=r;rfl
 |byt _=>obtain⟨t,rfl⟩:=r;rfl
 |flt _=>obtain⟨t,rfl⟩:=r;rfl
 |ref _=>cases r;rfl
 |ty _=>cases r;rfl
theorem RelV.inj{x y:V}{u:Value}(r:RelV x u)(q:RelV y u):x=y:=zz (r.abs.symm.trans q.abs)
theorem aN.inj:∀{xs ys:List V}{us:List Value},aN xs us->aN ys us->xs=ys
 | _,_,_,.nil,.nil=>rfl
 | _,_,_,.cons r t,.cons r' t'=>by rw[r.inj r',aN.inj t t']
section
variable {X:Cx}{pins:List (Addr×Obj)}{σ:St}{H:Hp}{s:Shared}{a:Addr}{xs ys:List V}
theorem SqL.of{K:PySem.W.Frag}(h:H a=some (.lst xs)):SqL K H a xs:=.inl (.inl h)
theorem SqT.of{K:PySem.W.Frag}(h:H a=some (.tup xs)):SqT K H a xs:=.inl (.inl h)
theorem Inv.list(I:Inv X pins σ H s)(h:SqL X.K H a xs):∃its:List Value,aN xs its/\PlainL s.heap a its.toArray/\xs.length<=sizeLine:=by
 rcases h with h | ⟨o,its,n,d,f,hd,c,g,r⟩
 ·obtain⟨z,its,n,r,e⟩:=h.ok I.hok;exact⟨its,r,⟨_,n,e,rfl,rfl,rfl⟩,z⟩
 ·refine⟨its.toList,r,⟨o,n,I.kIn a o d,f,hd,by simpa using c⟩,?_⟩;have e:=r.length;simp only[Array.length_toList] at e;omega
theorem Inv.tuple(I:Inv X pins σ H s)(h:SqT X.K H a xs):∃its:List Value,aN xs its/\IsTup s.heap a its.toArray/\xs.length<=sizeLine:=by
 rcases h with h | ⟨o,its,n,d,f,c,g,r⟩
 ·obtain⟨z,its,r,p⟩:=h.ok I.hok;exact⟨its,r,p,z⟩
 ·refine⟨its.toList,r,⟨o,I.kIn a o d,f,n,by simpa using c⟩,?_⟩;have e:=r.length;simp only[Array.length_toList] at e;omega
theorem Inv.list_inj(I:Inv X pins σ H s)(h:SqL X.K H a xs)(h':SqL X.K H a ys):xs=ys:=by
 obtain⟨f,r,⟨o,n,e,_,_,d⟩,_⟩:=I.list h;obtain⟨c,l,⟨q,u,g,_,_,j⟩,_⟩:=I.list h';rw[e] at g;cases g;rw[d] at j
 injection j with m _
 have:f=c:=by simpa using congrArg Array.toList m
 subst this;exact r.inj l
theorem Inv.tuple_inj(I:Inv X pins σ H s)(h:SqT X.K H a xs)(h':SqT X.K H a ys):xs=ys:=by
 obtain⟨f,r,⟨o,e,_,n,d⟩,_⟩:=I.tuple h;obtain⟨c,l,⟨q,g,_,u,j⟩,_⟩:=I.tuple h';rw[e] at g;cases g;rw[d] at j
 injection j with m _
 have:f=c:=by simpa using congrArg Array.toList m
 subst this;exact r.inj l
end
abbrev Cx.wish(X:Cx)(E:Value->Shared->Prop):Cx:={X with xe:=E}
abbrev Cx.nox(X:Cx):Cx:=X.wish λ_ _=>False
theorem Cx.Ok.wish{X:Cx}(ok:X.Ok)(E:Value->Shared->Prop):(X.wish E).Ok :=
 ⟨ok.mod,ok.kind,ok.glob,ok.blt,ok.above,ok.inj,ok.has,ok.cab,ok.hd,ok.frames,ok.stk,ok.exf,ok.bs,ok.bsz,ok.noex,ok.exfs,ok.funs,ok.frf⟩
theorem Cx.Ok.unwish{X:Cx}{E:Value->Shared->Prop}(ok:(X.wish E).Ok):X.Ok :=
 ⟨ok.mod,ok.kind,ok.glob,ok.blt,ok.above,ok.inj,ok.has,ok.cab,ok.hd,ok.frames,ok.stk,ok.exf,ok.bs,ok.bsz,ok.noex,ok.exfs,ok.funs,ok.frf⟩
section
variable {X:Cx}{pins:List (Addr×Obj)}{σ:St}{H:Hp}{s:Shared}{E:Value->Shared->Prop}
theorem Inv.wish(I:Inv X pins σ H s)(E:Value->Shared->Prop):Inv (X.wish E) pins σ H s:=⟨I.ok.wish E,I.os,I.bare,I.base,I.loc,I.cell,I.free,I.freeC,I.pin,I.hok,I.len⟩
theorem Inv.unwish(I:Inv (X.wish E) pins σ H s):Inv X pins σ H s:=⟨I.ok.unwish,I.os,I.bare,I.base,I.loc,I.cell,I.free,I.freeC,I.pin,I.hok,I.len⟩
theorem SP.unwish{D:Ends}{f:Flow}{d:Shared}(h:SP (X.wish E) pins D f d):SP X pins D f d:=by
 cases f with
 |next=>obtain⟨a,c,I,q⟩:=h;exact⟨a,c,I.unwish,q⟩
 |brk=>obtain⟨a,c,I,q⟩:=h;exact⟨a,c,I.unwish,q⟩
 |cont=>obtain⟨a,c,I,q⟩:=h;exact⟨a,c,I.unwish,q⟩
 |ret u=>obtain⟨v,a,c,I,r,q⟩:=h;exact⟨v,a,c,I.unwish,r,q⟩
theorem PE.nox{e:Expr}{t:TE}(h:PE X.nox e t):PE X e t:=λpins s σ H Q I hw =>
 zM (h pins s σ H Q (I.wish _) hw) (λ_ _ ⟨v,H',I',r,q⟩=>⟨v,H',I'.unwish,r,q⟩) λ_ _ z=>False.elim z
theorem PT.nox{e:Expr}{t:TT}(h:PT X.nox e t):PT X e t:=λpins s σ H Q I hw =>
 zM (h pins s σ H Q (I.wish _) hw) (λ_ _ ⟨H',I',q⟩=>⟨H',I'.unwish,q⟩) λ_ _ z=>False.elim z
theorem PSs.nox{st:List Stmt}{t:TS}(h:PSs X.nox st t):PSs X st t:=λpins s σ H D I hw =>
 zM (h pins s σ H D (I.wish _) hw) (λ_ _ q=>q.unwish) λ_ _ z=>False.elim z
end
section
variable {X:Cx}{st:Stmt}{rest:List Stmt}{t u:TS}{e:Expr}{te:TE}{pos:Pos}
def Nu:TS:=λD σ H=>D.nx σ H
def Nv(t u:TS):TS:=λD σ H=>t {D with nx:=u D} σ H
theorem Nx:PSs X [] Nu:=λ_ _ σ H _ I h=>wpAny_execs_nil ⟨σ,H,I,h⟩
theorem Ny(h1:PS X st t)(h2:PSs X rest u):PSs X (st::rest) (Nv t u):=by
 intro pins s σ H D I h;refine wpAny_execs_cons (thn (h1 pins s σ H {D with nx:=u D} I h) λf c q=>?_)
 cases f with
 |next =>
  obtain⟨a,g,d,q⟩:=q;exact h2 pins c a g D d q
 |ret v=>exact q
 |brk=>exact q
 |cont=>exact q
theorem Cz(h1:PS X st t):PSs X [st] t:=by
 intro pins s σ H D I h;refine wpAny_execs_cons (thn (h1 pins s σ H D I h) λf a q=>?_)
 cases f with
 |next=>exact wpAny_execs_nil q
 |ret v=>exact q
 |brk=>exact q
 |cont=>exact q
theorem Inv.quiet{pins:List (Addr×Obj)}{σ:St}{H:Hp}{s:Shared}(I:Inv X pins σ H s):interactive X.env=false:=by simp[interactive,I.ok.kind]
def Nz(te:TE):TS:=λD σ H=>te σ H λ_ a=>D.nx σ a
theorem CG(a:PE X e te)(hs:swapsWith e none pos.line X.env=pure false:=by rfl):PS X (.Expr e pos) (Nz te):=by
 intro pins s σ H D I h;exact wpAny_Expr_any (thn (a pins s σ H _ I h) λv s1 ⟨x,H1,I1,r1,q1⟩=>⟨σ,H1,I1,q1⟩) I.quiet hs
def NB(te:TE):TS:=λD σ H=>te σ H D.rt
theorem CJ(a:PE X e te):PS X (.Return (some e) pos) (NB te):=by
 intro pins s σ H D I h;exact wpAny_Return_some (thn (a pins s σ H _ I h) λv s1 ⟨x,H1,I1,r1,q1⟩=>⟨x,σ,H1,I1,r1,q1⟩)
def NP(c:TT)(t u:TS):TS:=λD σ H=>c σ H λb a=>if b=true then t D σ a else u D σ a
theorem NQ{c:Expr}{a b:List Stmt}{f:TT}(g:PT X c f)(l:PSs X a t)(j:PSs X b u):PS X (.If c a b pos) (NP f t u):=by
 intro pins s σ H D I h;refine wpAny_If (thn (g pins s σ H _ I h) λd s1 ⟨H1,I1,q1⟩=>?_)
 cases d with
 |true=>exact l pins s1 σ H1 D I1 q1
 |false=>exact j pins s1 σ H1 D I1 q1
end
abbrev TG:=V->St->Hp->(St->Hp->Prop)->Prop
abbrev TGs:=List V->St->Hp->(St->Hp->Prop)->Prop
def PG(X:Cx)(target:Expr)(t:TG):Prop :=
 ∀(pins:List (Addr×Obj)) (s:Shared) (σ:St) (H:Hp) (v:V) (u:Value) (Q:St->Hp->Prop),Inv X pins σ H s->RelV v u->t v σ H Q ->
  wpAny (model X.prog X.w) X.A (assign target X.env u) (λ_ d=>∃a c,Inv X pins a c d/\Q a c) X.xe s
def PGs(X:Cx)(ts:List Expr)(t:TGs):Prop :=
 ∀(pins:List (Addr×Obj)) (s:Shared) (σ:St) (H:Hp) (c:List V) (d:List Value) (Q:St->Hp->Prop),Inv X pins σ H s->aN c d->t c σ H Q ->
  wpAny (model X.prog X.w) X.A (assignInOrder ((assignEach ts X.env).map (·.2)) d) (λ_ g=>∃a f,Inv X pins a f g/\Q a f) X.xe s
section
variable {X:Cx}{pos:Pos}
def oG(i:Nat):TG:=λv σ H Q=>Q (σ.set i (some v)) H
theorem NT{i:Nat}{x:Str}(hN:X.N.Nodup)(c:X.N[i]?=some x)(a:Loc X.env.scope x)(d:X.fn x=true\/X.env.scope.names.lookup x=some .local:=by first | exact .inl rfl | exact .inr rfl | assumption):PG X (.Name x pos) (oG i):=by
 intro pins s σ H v u Q I r h;exact wpAny_assign_Name (uY I hN c a r (λg f=>⟨_,H,f,h⟩) d)
def NZ:TGs:=λa σ H Q=>a=[]/\Q σ H
def N5(t:TG)(u:TGs):TGs:=λc σ H Q=>∃v r,c=v::r/\t v σ H λa d=>u r a d Q
theorem N6:PGs X [] NZ:=by
 intro pins s σ H a c Q I r h;obtain⟨e,h⟩:=h;subst e;cases r;exact assignInOrder_nil ⟨σ,H,I,h⟩
theorem N7{e:Expr}{es:List Expr}{t:TG}{u:TGs}(h1:PG X e t)(h2:PGs X es u)
  (hs:(assignEach (e::es) X.env).map (·.2)=assign e X.env::(assignEach es X.env).map (·.2):=by rfl):PGs X (e::es) (N5 t u):=by
 intro pins s σ H c f Q I r h;obtain⟨v,d,a,h⟩:=h;subst a
 cases r with
 |cons r rr =>
  rw[hs];refine assignInOrder_cons (thn (h1 pins s σ H _ _ _ I r h) λ_ s1 ⟨σ1,H1,I1,q1⟩=>?_);exact h2 pins s1 σ1 H1 _ _ Q I1 rr q1
def N8(K:PySem.W.Frag)(n:Nat)(t:TGs):TG:=λv σ H Q=>∃a c,v=.ref a/\SqT K H a c/\c.length=n/\t c σ H Q
theorem Oa{es:List Expr}{k:Nat}{t:TGs}{n:Nat}(x:X.calm=true)(h:PGs X es t)
  (m:(assignEach es X.env).length=n:=by rfl) (d:(assignEach es X.env).findIdx? (·.1)=none:=by rfl):PG X (.Tuple es k pos) (N8 X.K n t):=by
 intro pins s σ H v u Q I r c;obtain⟨a,f,B,l,q,c⟩:=c;subst B;cases r;obtain⟨E,rv,j,F⟩:=I.tuple l
 refine assign_Tuple_tuple (I.ok.hd x) j (by simp[m,<-q,rv.length]) d λy g=>?_
 have C:Inv X pins σ H {s with heap:=y}:=I.kept (t':=s.toks) λb o e=>g b o (zo (zk e)) e
 exact h pins _ σ H f _ Q C (by simpa using rv) c
def qK(a:TE)(g:TG):TS:=λD σ H=>a σ H λx c=>g x σ c D.nx
theorem CK{i:Nat}{x:Str}{e:Expr}{a:TE}{pos':Pos}(hN:X.N.Nodup)(d:X.N[i]?=some x)(c:Loc X.env.scope x)(g:PE X e a)(hs:swapsWith e (some (.Name x pos')) pos.line X.env=pure false:=by rfl)(f:X.fn x=true\/X.env.scope.names.lookup x=some .local:=by first | exact .inl rfl | exact .inr rfl | assumption):
  PS X (.Assign [.Name x pos'] e pos) (qK a (oG i)):=by
 intro pins s σ H D I h;refine wpAny_Assign_Name (thn (g pins s σ H _ I h) λv s1 ⟨y,H1,I1,r1,q1⟩=>?_) hs;exact uY I1 hN d c r1 (λl j=>⟨_,H1,j,q1⟩) f
end
section
variable {X:Cx}{pos:Pos}
def CN(c:TT)(tb:TS):TS:=λD σ H=>∃W:Nat->St->Hp->Prop,(∃m,W m σ H)/\∀m σ H,W m σ H ->
 c σ H λb f=>if b=true then ∃N:St->Hp->Prop,(∀a g,N a g->∃d,d<m/\W d a g)/\tb {D with nx:=N,ct:=N,bk:=D.nx} σ f else D.nx σ f
theorem Oc{c:Expr}{body:List Stmt}{y:TT}{tb:TS}(B:PassesOwn (model X.prog X.w) X.A X.env X.xe)(J:PT X c y)(L:PSs X body tb):PS X (.While c body [] pos) (CN y tb):=by
 intro pins s σ H D I h;obtain⟨W,⟨G,E⟩,turn⟩:=h;refine wpAny_While (codeAny_whileLoop (λn F=>∃g C,Inv X pins g C F/\W n g C) ?_ G ⟨σ,H,I,E⟩);rintro n s1 ⟨σ1,H1,I1,w1⟩;refine wpAny_passesOwn B (thn (J pins s1 σ1 H1 _ I1 (turn n σ1 H1 w1)) λb s2 ⟨H2,I2,l⟩=>?_)
 cases b with
 |true =>
  obtain⟨N,hN,l⟩:=l;rw[if_pos rfl];refine wpAny_passesOwn B (thn (L pins s2 σ1 H2 _ I2 l) λf O j=>?_)
  cases f with
  |next =>
   obtain⟨a,d,x,q⟩:=j;obtain⟨r,u,m⟩:=hN a d q;exact⟨r,u,a,d,x,m⟩
  |cont =>
   obtain⟨a,d,x,q⟩:=j;obtain⟨r,u,m⟩:=hN a d q;exact⟨r,u,a,d,x,m⟩
  |brk=>exact j
  |ret v=>exact j
 |false =>
  rw[if_neg zh];exact wpAny_execs_nil ⟨σ1,H2,I2,l⟩
end
structure It where
 go:Nat->Hp->Prop
 yld:Nat->Hp->V->Hp->Prop
 stop:Nat->Hp->Prop
def fZ(X:Cx)(pins:List (Addr×Obj))(H:Hp)(b:Addr):Prop :=
 H b=none/\b≠X.env.locals/\b∉X.fs/\(b∈X.ex\/X.s₀.heap.objs.size<=b)/\(∀x c,X.env.cells.lookup x=some c->c≠b)/\∀p∈X.pn++pins,p.1≠b
theorem Inv.fpOk{X:Cx}{pins:List (Addr×Obj)}{σ:St}{H d:Hp}{s:Shared}{b:Addr}(I:Inv X pins σ H s)(a:s.heap.objs.size<=b)(g:d b=none):fZ X pins d b:=by
 refine⟨g,Nat.ne_of_gt (zF I.lt a),I.nofs a,.inr (zG I.sz a),λx c e z=>?_,λp f z=>?_⟩
 ·obtain⟨v,q⟩:=I.cell x c e;exact absurd (zF q.lt (by rw[z];exact a)) (zY _)
 ·exact absurd (zF (zk (I.pin p f).1) (by rw[z];exact a)) (zY _)
structure Turn(P:Program)(w:World)(K:PySem.W.Frag)(tg:Expr)(J:It)(fp:List Addr)(it:Addr)(tn:Nat->Heap->Prop):Prop where
 mem:it∈fp
 obj:∀i h,tn i h->∀b∈fp,∃o,h.get? b=some o/\∀v,o.data≠.cell v
 keep:∀i h h',tn i h->(∀b∈fp,∀o,h.get? b=some o->h'.get? b=some o)->tn i h'
 item:∀(X:Cx),X.prog=P->X.w=w->X.K=K->X.calm=true->∀(i:Nat) (pins:List (Addr×Obj)) (s:Shared) (σ:St) (H:Hp) (E:Value->Shared->Prop),Inv X pins σ H s->(∀b∈fp,fZ X pins H b)->tn i s.heap->J.go i H ->
  wpAny (model P w) X.A (pyNext (.ref it)) (λr s1=>∃u,r=some u /\
   wpAny (model P w) X.A (letOwnedTupleGo tg (.ref it) u) (λ_ s2=>∃x H',Inv X pins σ H' s2/\RelV x u/\J.yld i H x H'/\tn (i+1) s2.heap/\∀b∈fp,H' b=none) E s1) E s
 done:∀(X:Cx),X.prog=P->X.w=w->X.K=K->X.calm=true->∀(i:Nat) (pins:List (Addr×Obj)) (s:Shared) (σ:St) (H:Hp) (E:Value->Shared->Prop),Inv X pins σ H s->(∀b∈fp,fZ X pins H b)->tn i s.heap->J.stop i H ->
  wpAny (model P w) X.A (pyNext (.ref it)) (λr s1=>r=none/\Inv X pins σ H s1) E s
 self:∀(A:Around) (i:Nat) (s:Shared) (Q:Value->Shared->Prop) (E:Value->Shared->Prop),tn i s.heap->Q (.ref it) s->wpAny (model P w) A (pyIter (.ref it)) Q E s
abbrev TI:=St->Hp->(It->Hp->Prop)->Prop
def PIE(X:Cx)(pins:List (Addr×Obj))(σ:St)(g:Expr)(R:It->Hp->Prop)(c:Value)(f:Shared):Prop :=
 ∃(it:Addr) (fp:List Addr) (d:Nat->Heap->Prop) (J:It) (a:Hp),c=.ref it/\Inv X pins σ a f/\Turn X.prog X.w X.K g J fp it d/\d 0 f.heap/\(∀b∈fp,fZ X pins a b)/\R J a
def PI(X:Cx)(c iter:Expr)(a:TI):Prop :=
 ∀(pins:List (Addr×Obj)) (s:Shared) (σ:St) (H:Hp) (R:It->Hp->Prop),Inv X pins σ H s->a σ H R ->
  wpAny (model X.prog X.w) X.A (eval iter X.env) (λv d=>wpAny (model X.prog X.w) X.A (pyIter v) (PIE X pins σ c R) X.xe d) X.xe s
theorem mH{M:Model}{A:Around}{E:Value->Shared->Prop}{s:Shared}{c:Expr}{it:Addr}{u:Value}{o:Obj}{n:String}{vs:Array Value}{Q:Unit->Shared->Prop}(d:s.heap.get? it=some o)(g:o.cls=.type n)(hd:o.data=.fields vs)
  (f:["enumerate","zip","dict_itemiterator","dict_reverseitemiterator","odict_iterator","itertools.zip_longest","itertools.pairwise"].contains n=false) (a:Q () s):wpAny M A (letOwnedTupleGo c (.ref it) u) Q E s:=by
 unfold letOwnedTupleGo
 cases c<;>first
  | exact zb a
  | (cases u<;>first
    | exact zb a
    | (refine za (wpAny_load d ?_)
       rw[g,hd];show wpAny M A (if(["enumerate","zip","dict_itemiterator","dict_reverseitemiterator","odict_iterator","itertools.zip_longest","itertools.pairwise"].contains n&&vs[0]? == some (rawInt _))=true then _ else _) Q E s;rw[if_neg (by intro h;rw[f,Bool.false_and] at h;cases h)]
       exact zb a))
def Itl(K:PySem.W.Frag)(a:Addr):It :=
 ⟨λi H=>∃c x,SqL K H a c/\c[i]?=some x,λi H x d=>d=H/\∀c,SqL K H a c->c[i]?=some x,λi H=>∃c,SqL K H a c/\c.length<=i⟩
def Itt(K:PySem.W.Frag)(a:Addr):It :=
 ⟨λi H=>∃c x,SqT K H a c/\c[i]?=some x,λi H x d=>d=H/\∀c,SqT K H a c->c[i]?=some x,λi H=>∃c,SqT K H a c/\c.length<=i⟩
def Itr(lo:Int)(n:Nat):It:=⟨λi _=>i<n,λi H x a=>a=H/\x=.int (lo+i),λi _=>n<=i⟩
theorem Od{P:Program}{w:World}{K:PySem.W.Frag}{tg:Expr}(a it:Addr):Turn P w K tg (Itl K a) [it] it (λi h=>h.IsListIter it a i) where
 mem:=by simp
 obj:=λi h st b hb=>by
  have e:b=it:=by simpa using hb
  subst e;obtain⟨o,e,c,d⟩:=st;exact⟨o,e,λv z=>by rw[d] at z;cases z⟩
 keep:=λi h h' st k=>st.at λo e=>k it (by simp) o e
 item:=by
  intro X hP hw hK hc i pins s σ H E I hf st hg;subst hP hw hK;obtain⟨xs,x,hq,hx⟩:=hg;obtain⟨its,rv,p,hz⟩:=I.list hq;obtain⟨u,hu,ru⟩:=rv.get hx;obtain⟨f0,f1,f2,f3,f4,f5⟩:=hf it (by simp)
  refine wpAny_pyNext_list_item st p.isList (x:=u) (by simpa using hu) λh' st' sb=>?_
  have I1:Inv X pins σ H {s with heap:=h'}:=I.turned (t':=s.toks) (λb o hb e=>(sb.2 b hb).trans e) f0 f1 f3 f4 f5;obtain⟨o,e,c,d⟩:=id st';exact⟨u,rfl,mH (s:={s with heap:=h'}) e c d (by decide) ⟨x,H,I1,ru,⟨rfl,λys hy=>by rw[I.list_inj hy hq];exact hx⟩,st',λb hb=>(hf b hb).1⟩⟩
 done:=by
  intro X hP hw hK hc i pins s σ H E I hf st hg;subst hP hw hK;obtain⟨xs,hq,hx⟩:=hg;obtain⟨its,rv,p,hz⟩:=I.list hq;obtain⟨f0,f1,f2,f3,f4,f5⟩:=hf it (by simp);have hl:=rv.length
  exact wpAny_pyNext_list_end (I.ok.hd hc) st p.isList (by simp;omega) λh' eb=>⟨rfl,I.turned (t':=s.toks) (λb o hb e=>eb b o hb e) f0 f1 f3 f4 f5⟩
 self:=λ_ _ _ _ _ st h=>wpAny_pyIter_listiter st h
theorem Oe{P:Program}{w:World}{K:PySem.W.Frag}{tg:Expr}(a it:Addr):Turn P w K tg (Itt K a) [it] it (λi h=>h.IsTupleIter it a i) where
 mem:=by simp
 obj:=λi h st b hb=>by
  have e:b=it:=by simpa using hb
  subst e;obtain⟨o,e,c,d⟩:=st;exact⟨o,e,λv z=>by rw[d] at z;cases z⟩
 keep:=λi h h' st k=>st.at λo e=>k it (by simp) o e
 item:=by
  intro X hP hw hK hc i pins s σ H E I hf st hg;subst hP hw hK;obtain⟨xs,x,hq,hx⟩:=hg;obtain⟨its,rv,p,hz⟩:=I.tuple hq;obtain⟨u,hu,ru⟩:=rv.get hx;obtain⟨f0,f1,f2,f3,f4,f5⟩:=hf it (by simp)
  refine wpAny_pyNext_tuple_item st (show s.heap.IsTuple a its.toArray from p) (x:=u) (by simpa using hu) λh' st' sb=>?_
  have I1:Inv X pins σ H {s with heap:=h'}:=I.turned (t':=s.toks) (λb o hb e=>(sb.2 b hb).trans e) f0 f1 f3 f4 f5;obtain⟨o,e,c,d⟩:=id st';exact⟨u,rfl,mH (s:={s with heap:=h'}) e c d (by decide) ⟨x,H,I1,ru,⟨rfl,λys hy=>by rw[I.tuple_inj hy hq];exact hx⟩,st',λb hb=>(hf b hb).1⟩⟩
 done:=by
  intro X hP hw hK hc i pins s σ H E I hf st hg;subst hP hw hK;obtain⟨xs,hq,hx⟩:=hg;obtain⟨its,rv,p,hz⟩:=I.tuple hq;obtain⟨f0,f1,f2,f3,f4,f5⟩:=hf it (by simp);have hl:=rv.length
  exact wpAny_pyNext_tuple_end (I.ok.hd hc) st (show s.heap.IsTuple a its.toArray from p) (by simp;omega) λh' eb=>⟨rfl,I.turned (t':=s.toks) (λb o hb e=>eb b o hb e) f0 f1 f3 f4 f5⟩
 self:=λ_ _ _ _ _ st h=>wpAny_pyIter_tupleiter st h
theorem Og{P:Program}{w:World}{K:PySem.W.Frag}{tg:Expr}(it:Addr)(lo:Int)(n:Nat):Turn P w K tg (Itr lo n) [it] it (λi h=>IsRangeIter h it (lo+(i:Nat) * 1) ((n:Int) - (i:Nat)) 1) where
 mem:=by simp
 obj:=λi h st b hb=>by
  have e:b=it:=by simpa using hb
  subst e
  exact⟨_,st,λv z=>by
   have z':Data.fields _=Data.cell v:=z
   cases z'⟩
 keep:=λi h h' st k=>k it (by simp) _ st
 item:=by
  intro X hP hw hK hc i pins s σ H E I hf st hg;subst hP hw hK;obtain⟨f0,f1,f2,f3,f4,f5⟩:=hf it (by simp);have W:=Walks.range (prog:=X.prog) (w:=X.w) (I.ok.hd hc) it lo 1 n
  refine W.item i s _ _ hg st λv h' tk hv st' kk=>?_
  obtain⟨t,rfl⟩:=hv;have I1:Inv X pins σ H {s with heap:=h',toks:=tk}:=I.turned (λb o hb e=>kk b o (by simpa using hb) e) f0 f1 f3 f4 f5;refine⟨_,rfl,mH (s:={s with heap:=h',toks:=tk}) (n:="range_iterator") st' rfl rfl (by decide) ⟨.int (lo+i),H,I1,⟨t,?_⟩,⟨rfl,rfl⟩,st',λb hb=>(hf b hb).1⟩⟩;rw[Int.mul_one]
 done:=by
  intro X hP hw hK hc i pins s σ H E I hf st hg;subst hP hw hK;obtain⟨f0,f1,f2,f3,f4,f5⟩:=hf it (by simp)
  exact wpAny_pyNext_range_end (I.ok.hd hc) st (by have:n<=i:=hg;omega) λh' eb=>⟨rfl,I.turned (t':=s.toks) (λb o hb e=>eb b o hb e) f0 f1 f3 f4 f5⟩
 self:=λ_ _ _ _ _ st h=>wpAny_pyIter_rangeiter st h
section
variable {X:Cx}{tg:Expr}
def Oh(K:PySem.W.Frag)(tl:TE):TI:=λσ H R=>tl σ H λx c=>∃a,x=.ref a/\(∃d,SqL K c a d)/\R (Itl K a) c
def Oi(K:PySem.W.Frag)(tl:TE):TI:=λσ H R=>tl σ H λx c=>∃a,x=.ref a/\(∃d,SqT K c a d)/\R (Itt K a) c
theorem CP{l:Expr}{tl:TE}(d:PE X l tl):PI X tg l (Oh X.K tl):=by
 intro pins s σ H R I h
 refine thn (d pins s σ H _ I h) λv s1 ⟨x,H1,I1,r1,q1⟩=>?_
 obtain⟨a,e,⟨j,c⟩,q⟩:=q1;subst e;cases r1;obtain⟨g,rv,p,m⟩:=I1.list c;refine wpAny_pyIter_list p.isList ?_;refine⟨s1.heap.objs.size,[s1.heap.objs.size],_,_,H1,rfl,I1.kept (t':=s1.toks) λb o e=>zl _ e,Od a _,⟨_,zx _ rfl,rfl,rfl⟩,λb f=>?_,q⟩
 have e:b=s1.heap.objs.size:=by simpa using f
 subst e;exact I1.fpOk (zc _) (I1.hok.fresh (zc _))
theorem Oj{l:Expr}{tl:TE}(f:PE X l tl):PI X tg l (Oi X.K tl):=by
 intro pins s σ H R I h
 refine thn (f pins s σ H _ I h) λv s1 ⟨x,H1,I1,r1,q1⟩=>?_
 obtain⟨a,e,⟨j,d⟩,q⟩:=q1;subst e;cases r1;obtain⟨c,rv,p,m⟩:=I1.tuple d;refine wpAny_pyIter_tuple (show s1.heap.IsTuple a c.toArray from p) ?_;refine⟨s1.heap.objs.size,[s1.heap.objs.size],_,_,H1,rfl,I1.kept (t':=s1.toks) λb o e=>zl _ e,Oe a _,⟨_,zx _ rfl,rfl,rfl⟩,λb g=>?_,q⟩
 have e:b=s1.heap.objs.size:=by simpa using g
 subst e;exact I1.fpOk (zc _) (I1.hok.fresh (zc _))
theorem Ol{pins:List (Addr×Obj)}{σ:St}{H:Hp}{s:Shared}{R:It->Hp->Prop}{E:Value->Shared->Prop}{lo a:Int}{t u v:Tok}{tk:Nat}(I:Inv X pins σ H s)(h1:-(2 ^ 62)<=lo)(h2:lo<2 ^ 62)(h3:-(2 ^ 62)<=a)(h4:a<2 ^ 62)
  (q:R (Itr lo (a - lo).toNat) H):wpAny (model X.prog X.w) X.A (pyIter (.ref s.heap.objs.size)) (PIE X pins σ tg R) E {s with heap:=s.heap.push {cls:=.type "range",data:=.fields #[.int lo t,.int a u,.int 1 v]},toks:=tk}:=by
 refine wpAny_pyIter_range (IsRange.new ..) (small_one h1 h2 h3 h4) ?_
 have c:Inv X pins σ H {s with heap:=s.heap.push {cls:=.type "range",data:=.fields #[.int lo t,.int a u,.int 1 v]},toks:=tk}:=I.kept λb o e=>zl _ e
 refine⟨(s.heap.push {cls:=.type "range",data:=.fields #[.int lo t,.int a u,.int 1 v]}).objs.size,[(s.heap.push {cls:=.type "range",data:=.fields #[.int lo t,.int a u,.int 1 v]}).objs.size],_,_,H,rfl,
  c.kept (t':=tk) λb o e=>zl _ e,Og _ lo (a - lo).toNat,?_,λb d=>?_,q⟩
 ·have g:lo+((0:Nat):Int) * 1=lo:=by simp
  have f:(((a - lo).toNat:Nat):Int) - ((0:Nat):Int)=Builtin.Range.rangeSize lo a 1:=by rw[rangeSize_one];split<;>omega
  show IsRangeIter _ _ (lo+((0:Nat):Int) * 1) ((((a - lo).toNat:Nat):Int) - ((0:Nat):Int)) 1;rw[g,f];exact zx _ rfl
 ·have e:b=(s.heap.push {cls:=.type "range",data:=.fields #[.int lo t,.int a u,.int 1 v]}).objs.size:=by simpa using d
  subst e;exact c.fpOk (zc _) (c.hok.fresh (zc _))
def Om(c:TA):TI:=λσ H R=>c σ H λa d=>∃j:Int,a=[.int j]/\-(2 ^ 62)<=j/\j<2 ^ 62/\R (Itr 0 j.toNat) d
theorem Oo{a:Expr}{f:TA}{p c:Pos}(m:Gl X "range")(l:X.mg "range" = none)(n:PA X [a] f)(hs:starEach [a] X.env=[(false,eval a X.env)]:=by rfl):PI X tg (.Call (.Name "range" p) [a] [] c) (Om f):=by
 intro pins s σ H R I h;refine Call_ (oF I m l boot_range (PyProof.Rows.callWith_type1 (thn (n c pins s σ H _ I h) λus s1 ⟨vs,H1,I1,r1,d⟩=>?_) hs rfl));obtain⟨j,e,d,g,q⟩:=d;subst e
 cases r1 with
 |cons r rr =>
  cases rr;obtain⟨t,rfl⟩:=r;exact call_range_1 (Ol I1 (by omega) (by omega) d g (by simpa using q))
def CQ(j:TI)(g:TG)(tb:TS):TS:=λD σ H=>j σ H λJ n=>∃W:Nat->Nat->St->Hp->Prop,(∃m,W 0 m σ n)/\∀i m σ H,W i m σ H ->
 (J.stop i H/\D.nx σ H)\/(J.go i H/\∃N:St->Hp->Prop,(∀c a,N c a->∃f,f<m/\W (i+1) f c a)/\∀x a,J.yld i H x a->g x σ a λd l=>tb {D with nx:=N,ct:=N,bk:=D.nx} d l)
def oH(fp:List Addr)(h:Heap):List (Addr×Obj):=fp.filterMap λb=>(h.get? b).map λo=>(b,o)
theorem qL{fp:List Addr}{h:Heap}{b:Addr}{o:Obj}(a:b∈fp)(e:h.get? b=some o):(b,o)∈oH fp h:=List.mem_filterMap.mpr ⟨b,a,by rw[e];rfl⟩
theorem Oq{fp:List Addr}{h:Heap}{p:Addr×Obj}(a:p∈oH fp h):p.1∈fp/\h.get? p.1=some p.2:=by
 obtain⟨b,c,e⟩:=List.mem_filterMap.mp a
 cases q:h.get? b with
 |none=>rw[q] at e;cases e
 |some o =>
  rw[q] at e;have e':(b,o)=p:=zz e;subst e';exact⟨c,q⟩
theorem Inv.pinned{pins:List (Addr×Obj)}{σ:St}{H:Hp}{s:Shared}{fp:List Addr}(I:Inv X pins σ H s)(j:∀b∈fp,fZ X pins H b)(g:∀b∈fp,∃o,s.heap.get? b=some o/\∀v,o.data≠.cell v):Inv X (pins++oH fp s.heap) σ H s :=
 I.pins_of λp f=>(zC.mp f).elim (λz=>I.pin p (zS _ z)) λz=>by
  obtain⟨a,e⟩:=Oq z;obtain⟨f0,m,l,_⟩:=j p.1 a;obtain⟨o,c,d⟩:=g p.1 a;rw[e] at c;cases c;exact⟨e,f0,m,l,d⟩
theorem Inv.unpinned{pins pl:List (Addr×Obj)}{σ:St}{H:Hp}{s:Shared}(I:Inv X (pins++pl) σ H s):Inv X pins σ H s:=I.pins_of λp a=>I.pin p (zS _ (List.mem_append_left _ a))
theorem Ot{iter:Expr}{body:List Stmt}{Z:TI}{g:TG}{tb:TS}{Y:Pos}(G:PassesOwn (model X.prog X.w) X.A X.env X.xe)(hc:X.calm=true)(hi:PI X tg iter Z)(hg:PG X tg g)(c:PSs X body tb)
  (hs:∀x,foldedSetIterable iter X.env x=pure x:=by intro _;rfl):PS X (.For tg iter body [] Y) (CQ Z g tb):=by
 intro pins s σ H D I h;refine wpAny_For (thn (hi pins s σ H _ I h) λv s1 h1=>thn h1 λitv s2 h2=>?_) hs;obtain⟨it,fp,tn,J,H2,e,I2,T,U,f2,W,⟨m0,w0⟩,turn⟩:=h2;subst e
 have B:∀{C:Hp},(∀b∈fp,C b=none)->∀b∈fp,fZ X pins C b:=λhn b c=>⟨hn b c,(f2 b c).2⟩
 refine codeAny_forLoop_any (λn s'=>∃i y C,Inv X pins y C s'/\tn i s'.heap/\(∀b∈fp,C b=none)/\W i n y C) ?_ m0 ⟨0,σ,H2,I2,U,λb c=>(f2 b c).1,w0⟩;rintro n s3 ⟨i,q,P,I3,L,O,w3⟩
 rcases turn i n q P w3 with⟨stop,qn⟩ | ⟨go,N,hN,step⟩
 ·refine wpAny_passesOwn G (thn (T.done X rfl rfl rfl hc i pins s3 q P X.xe I3 (B O) L stop) λr s4 ⟨R,I4⟩=>?_);subst R;exact wpAny_execs_nil ⟨q,P,I4,qn⟩
 ·refine wpAny_passesOwn G (thn (T.item X rfl rfl rfl hc i pins s3 q P X.xe I3 (B O) L go) λr s4 ⟨u,R,h4⟩=>?_);subst R;refine wpAny_passesOwn G (thn h4 λ_ s5 ⟨x,H5,I5,r5,y5,st5,fr5⟩=>?_);have I5':=I5.pinned (B fr5) (T.obj _ _ st5);refine wpAny_passesOwn G (thn (hg _ s5 q H5 x u _ I5' r5 (step x H5 y5)) λ_ s6 ⟨σ6,H6,I6,q6⟩=>?_);refine wpAny_passesOwn G (thn (c _ s6 σ6 H6 _ I6 q6) λf Q E=>?_)
  have again:∀{a:St}{l:Hp},Inv X (pins++oH fp s5.heap) a l Q->N a l->∃m,m<n/\∃i y C,Inv X pins y C Q/\tn i Q.heap/\(∀b∈fp,C b=none)/\W i m y C:=λ{a l} j F=>by
   obtain⟨m',hm,w7⟩:=hN a l F;refine⟨m',hm,i+1,a,l,j.unpinned,T.keep _ _ _ st5 λb c o e=>(j.pin (b,o) (zS _ (zS _ (qL c e)))).1,λb c=>?_,w7⟩;obtain⟨o,e,d⟩:=T.obj _ _ st5 b c;exact(j.pin (b,o) (zS _ (zS _ (qL c e)))).2.1
  cases f with
  |next=>obtain⟨a,l,j,F⟩:=E;exact again j F
  |cont=>obtain⟨a,l,j,F⟩:=E;exact again j F
  |brk=>obtain⟨a,l,j,E⟩:=E;exact⟨a,l,j.unpinned,E⟩
  |ret v=>obtain⟨x7,a,l,j,r7,E⟩:=E;exact⟨x7,a,l,j.unpinned,r7,E⟩
end
abbrev R2:=V->V->Hp->VK->Prop
def OpR(X:Cx)(f:Value->Value->Sem Value)(r:R2):Prop :=
 ∀(pins:List (Addr×Obj)) (s:Shared) (σ:St) (H:Hp) (x y:V) (v u:Value) (Q:VK),Inv X pins σ H s->RelV x v->RelV y u->r x y H Q ->
  wpAny (model X.prog X.w) X.A (f v u) (EP X pins σ Q) X.xe s
def UnR(X:Cx)(f:Value->Sem Value)(r:V->Hp->VK->Prop):Prop :=
 ∀(pins:List (Addr×Obj)) (s:Shared) (σ:St) (H:Hp) (x:V) (v:Value) (Q:VK),Inv X pins σ H s->RelV x v->r x H Q ->
  wpAny (model X.prog X.w) X.A (f v) (EP X pins σ Q) X.xe s
def iY(X:Cx)(f:Value)(r:List V->Hp->VK->Prop):Prop :=
 ∀(pins:List (Addr×Obj)) (s:Shared) (σ:St) (H:Hp) (a:List V) (c:List Value) (Q:VK),Inv X pins σ H s->aN a c->r a H Q ->
  wpAny (model X.prog X.w) X.A (call f c) (EP X pins σ Q) X.xe s
def Ou(X:Cx)(r:V->Hp->(Bool->Hp->Prop)->Prop):Prop :=
 ∀(pins:List (Addr×Obj)) (s:Shared) (σ:St) (H:Hp) (x:V) (v:Value) (Q:Bool->Hp->Prop),Inv X pins σ H s->RelV x v->r x H Q ->
  wpAny (model X.prog X.w) X.A (truthy v) (TP X pins σ Q) X.xe s
def tOp(r:R2)(a tb:TE):TE:=λσ H Q=>a σ H λx d=>tb σ d λy c=>r x y c Q
def tUn(r:V->Hp->VK->Prop)(a:TE):TE:=λσ H Q=>a σ H λx c=>r x c Q
def rI(C:Int->Int->Prop)(g:Int->Int->V):R2:=λx y H Q=>∃i j,x=.int i/\y=.int j/\C i j/\Q (g i j) H
def rI0(g:Int->Int->V):R2:=λx y H Q=>∃i j,x=.int i/\y=.int j/\Q (g i j) H
def rU(g:Int->V):V->Hp->VK->Prop:=λx H Q=>∃i,x=.int i/\Q (g i) H
section
variable {X:Cx}{a b c:Expr}{ta tb tc:TE}{pos:Pos}
theorem uZ(r:PE X a ta)(q:PE X b tb){pins:List (Addr×Obj)}{s:Shared}{σ:St}{H:Hp}{R:V->V->Hp->Prop}(I:Inv X pins σ H s)
  (h:ta σ H λx m=>tb σ m λy d=>R x y d) {Q:Value->Shared->Prop}{f:Value->Value->Sem Value}
  (n:∀v u l x y d,Inv X pins σ d l->RelV x v->RelV y u->R x y d->wpAny (model X.prog X.w) X.A (f v u) Q X.xe l):
  wpAny (model X.prog X.w) X.A (eval a X.env) (λv j=>wpAny (model X.prog X.w) X.A (eval b X.env) (λu g=>wpAny (model X.prog X.w) X.A (f v u) Q X.xe g) X.xe j) X.xe s:=by
 refine thn (r pins s σ H _ I h) λv s1 ⟨x,m,I1,r1,q1⟩=>?_
 refine thn (q pins s1 σ m _ I1 q1) λu l ⟨y,d,I2,r2,q2⟩=>?_
 exact n v u l x y d I2 r1 r2 q2
theorem Ov{op:Operator}{r:R2}(j:OpR X (binaryOp op) r)(m:PE X a ta)(l:PE X b tb):PE X (.BinOp a op b pos) (tOp r ta tb):=by
 intro pins s σ H Q I h;exact wpAny_BinOp (uZ m l I h λv u d x y B n g f q=>j pins d σ B x y v u Q n g f q)
theorem Ox{op:UnaryOp}{r:V->Hp->VK->Prop}(d:UnR X (unaryOp op) r)(f:PE X a ta):PE X (.UnaryOp op a pos) (tUn r ta):=by
 intro pins s σ H Q I h;exact UnaryOp_ (thn (f pins s σ H _ I h) λv s1 ⟨x,H1,I1,r1,q1⟩=>d pins s1 σ H1 x v Q I1 r1 q1)
theorem opI{f:Value->Value->Sem Value}{C:Int->Int->Prop}{g:Int->Int->Int}
  (rule:∀(i j:Int) (t u:Tok) (s:Shared) (Q:Value->Shared->Prop) (E:Value->Shared->Prop),C i j->Q (.int (g i j) s.toks) {s with toks:=s.toks+1}->wpAny (model X.prog X.w) X.A (f (.int i t) (.int j u)) Q E s):
  OpR X f (rI C λi j=>.int (g i j)):=by
 intro pins s σ H x y v u Q I m l h;obtain⟨i,j,rfl,rfl,n,q⟩:=h;obtain⟨t,rfl⟩:=m;obtain⟨d,rfl⟩:=l;exact rule i j t d s _ _ n ⟨.int (g i j),H,I.tok _,⟨_,rfl⟩,q⟩
theorem CT{f:Value->Value->Sem Value}{g:Int->Int->Int}
  (rule:∀(i j:Int) (t u:Tok) (s:Shared) (Q:Value->Shared->Prop) (E:Value->Shared->Prop),Q (.int (g i j) s.toks) {s with toks:=s.toks+1}->wpAny (model X.prog X.w) X.A (f (.int i t) (.int j u)) Q E s):
  OpR X f (rI0 λi j=>.int (g i j)):=by
 intro pins s σ H x y v u Q I m l h;obtain⟨i,j,rfl,rfl,q⟩:=h;obtain⟨t,rfl⟩:=m;obtain⟨d,rfl⟩:=l;exact rule i j t d s _ _ ⟨.int (g i j),H,I.tok _,⟨_,rfl⟩,q⟩
theorem CV{f:Value->Value->Sem Value}{g:Int->Int->Bool}
  (rule:∀(i j:Int) (t u:Tok) (s:Shared) (Q:Value->Shared->Prop) (E:Value->Shared->Prop),Q (.bool (g i j)) s->wpAny (model X.prog X.w) X.A (f (.int i t) (.int j u)) Q E s):
  OpR X f (rI0 λi j=>.bl (g i j)):=by
 intro pins s σ H x y v u Q I m l h;obtain⟨i,j,rfl,rfl,q⟩:=h;obtain⟨t,rfl⟩:=m;obtain⟨d,rfl⟩:=l;exact rule i j t d s _ _ ⟨.bl (g i j),H,I,rfl,q⟩
def Oz(i j:Int):Prop:=0<j/\j<1073741824
def OD(i j:Int):Prop:=0<=j/\j<=1000000/\i.natAbs<2 ^ 64
def u6(i j:Int):Prop:=(-(2 ^ 64)<i/\i<2 ^ 64)\/(-(2 ^ 64)<j/\j<2 ^ 64)
theorem u6.ok{i j:Int}(h:u6 i j):IntMulOk i j:=by
 rcases h with⟨h1,h2⟩ | ⟨h1,h2⟩
 ·exact .of_left (intBits_le_64 h1 h2)
 ·exact .of_right (intBits_le_64 h1 h2)
theorem OJ:OpR X (binaryOp .Add) (rI0 λi j=>.int (i+j)):=CT λ_ _ _ _ _ _ _ q=>add_int q
theorem O7:OpR X (binaryOp .Sub) (rI0 λi j=>.int (i - j)):=CT λ_ _ _ _ _ _ _ q=>sub_int q
theorem O8:OpR X (binaryOp .Mult) (rI u6 λi j=>.int (i * j)):=opI λ_ _ _ _ _ _ _ d q=>mul_int q d.ok
theorem Pa:OpR X (binaryOp .FloorDiv) (rI Oz λi j=>.int (i / j)):=opI λi j _ _ _ _ _ d q=>by
 have h1:(0:Int)<j:=d.1;have h2:j<1073741824:=d.2;exact floordiv_int (by omega) (by rw[Int.fdiv_eq_ediv_of_nonneg i (by omega)];exact q) (.inl (PyProof.noPylong_small (by omega)))
theorem Pb:OpR X (binaryOp .Mod) (rI (λ_ j=>0<j) λi j=>.int (i % j)):=opI λi j _ _ _ _ _ d q=>by
 have h1:(0:Int)<j:=d;exact mod_int' (by omega) (by rw[Int.fmod_eq_emod_of_nonneg i (by omega)];exact q)
theorem Pg:OpR X (binaryOp .Pow) (rI OD λi j=>.int (i ^ j.toNat)):=opI λ_ _ _ _ _ _ _ d q=>pow_int_small d.1 d.2.1 d.2.2 q
theorem unI{f:Value->Sem Value}{g:Int->Int}
  (rule:∀(i:Int) (t:Tok) (s:Shared) (Q:Value->Shared->Prop) (E:Value->Shared->Prop),Q (.int (g i) s.toks) {s with toks:=s.toks+1}->wpAny (model X.prog X.w) X.A (f (.int i t)) Q E s):
  UnR X f (rU λi=>.int (g i)):=by
 intro pins s σ H x v Q I d h;obtain⟨i,rfl,q⟩:=h;obtain⟨t,rfl⟩:=d;exact rule i t s _ _ ⟨.int (g i),H,I.tok _,⟨_,rfl⟩,q⟩
theorem Ph:UnR X (unaryOp .USub) (rU λi=>.int (-i)):=unI λ_ _ _ _ _ q=>neg_int q
theorem Pj:OpR X (binaryOp .Add) (λx y H Q=>∃i k,x=.int i/\y=.bl k/\Q (.int (i+b2i k)) H):=by
 intro pins s σ H x y v u Q I f d h;obtain⟨i,k,rfl,rfl,q⟩:=h;obtain⟨t,rfl⟩:=f;cases d;exact add_int_bool ⟨.int (i+b2i k),H,I.tok _,⟨_,rfl⟩,q⟩
end
def CW:V->V->Bool
 | .non,.non=>true | .non,.int _=>true | .int _,.non=>true | .non,.bl _=>true | .bl _,.non=>true | .non,.str _=>true | .str _,.non=>true
 | .int _,.int _=>true | .bl _,.bl _=>true | .str _,.str _=>true | .byt _,.byt _=>true
 | .int _,.str _=>true | .str _,.int _=>true | .bl _,.str _=>true | .str _,.bl _=>true
 | _,_=>false
def rEq:R2:=λx y H Q=>CW x y=true/\Q (.bl (decide (x=y))) H
def rNe:R2:=λx y H Q=>CW x y=true/\Q (.bl (!decide (x=y))) H
theorem CZ{i j:Int}:decide (V.int i=V.int j)=(i == j):=by
 rw[Bool.eq_iff_iff];simp
theorem Dc{i j:Bool}:decide (V.bl i=V.bl j)=(i == j):=by
 rw[Bool.eq_iff_iff];simp
theorem Dd{i j:Str}:decide (V.str i=V.str j)=(i == j):=by
 rw[Bool.eq_iff_iff];simp
theorem De{i j:Array UInt8}:decide (V.byt i=V.byt j)=(i.toList == j.toList):=by
 rw[Bool.eq_iff_iff];cases i;cases j;simp
section
variable {X:Cx}{a b c:Expr}{ta tb tc:TE}{pos:Pos}
theorem cD{pins:List (Addr×Obj)}{σ:St}{H:Hp}{s:Shared}{Q:VK}{k d:Bool}(I:Inv X pins σ H s)(q:Q (.bl k) H)(e:k=d):EP X pins σ Q (.bool d) s:=by
 subst e;exact⟨.bl k,H,I,rfl,q⟩
theorem u9:OpR X (compareOp .Eq) rEq:=by
 intro pins s σ H x y v u Q I l d h;obtain⟨g,q⟩:=h
 cases x with
 |non =>
  cases l
  cases y with
  |non=>cases d;exact PySem.EqNone.eq_none_none (cD I q (by simp))
  |bl j=>cases d;exact PySem.EqNone.eq_none_bool (cD I q (by simp))
  |int j=>obtain⟨f,rfl⟩:=d;exact PySem.EqNone.eq_none_int (cD I q (by simp))
  |str j=>obtain⟨f,rfl⟩:=d;exact PySem.EqNone.eq_none_str (cD I q (by simp))
  | _=>exact absurd (show false=true from g) zh
 |bl i =>
  cases l
  cases y with
  |non=>cases d;exact PySem.EqNone.eq_bool_none (cD I q (by simp))
  |bl j=>cases d;exact eq_bool (cD I q Dc)
  |str j=>obtain⟨f,rfl⟩:=d;exact PySem.EqMixed.eq_bool_str (cD I q (by simp))
  | _=>exact absurd (show false=true from g) zh
 |int i =>
  obtain⟨t,rfl⟩:=l
  cases y with
  |non=>cases d;exact PySem.EqNone.eq_int_none (cD I q (by simp))
  |int j=>obtain⟨f,rfl⟩:=d;exact eq_int (cD I q CZ)
  |str j=>obtain⟨f,rfl⟩:=d;exact PySem.EqMixed.eq_int_str (cD I q (by simp))
  | _=>exact absurd (show false=true from g) zh
 |str i =>
  obtain⟨t,rfl⟩:=l
  cases y with
  |non=>cases d;exact PySem.EqNone.eq_str_none (cD I q (by simp))
  |bl j=>cases d;exact PySem.EqMixed.eq_str_bool (cD I q (by simp))
  |int j=>obtain⟨f,rfl⟩:=d;exact PySem.EqMixed.eq_str_int (cD I q (by simp))
  |str j=>obtain⟨f,rfl⟩:=d;exact eq_str (cD I q Dd)
  | _=>exact absurd (show false=true from g) zh
 |byt i =>
  obtain⟨t,rfl⟩:=l
  cases y with
  |byt j=>obtain⟨f,rfl⟩:=d;exact PySem.W.eq_bytes (cD I q De)
  | _=>exact absurd (show false=true from g) zh
 | _=>cases y<;>exact absurd (show false=true from g) zh
theorem vd:OpR X (compareOp .NotEq) rNe:=by
 intro pins s σ H x y v u Q I l d h;obtain⟨g,q⟩:=h
 cases x with
 |non =>
  cases l
  cases y with
  |non=>cases d;exact PySem.EqNone.ne_none_none (cD I q (by simp))
  |bl j=>cases d;exact PySem.EqNone.ne_none_bool (cD I q (by simp))
  |int j=>obtain⟨f,rfl⟩:=d;exact PySem.EqNone.ne_none_int (cD I q (by simp))
  |str j=>obtain⟨f,rfl⟩:=d;exact PySem.EqNone.ne_none_str (cD I q (by simp))
  | _=>exact absurd (show false=true from g) zh
 |bl i =>
  cases l
  cases y with
  |non=>cases d;exact PySem.EqNone.ne_bool_none (cD I q (by simp))
  |bl j=>cases d;exact ne_bool (cD I q (congrArg not Dc))
  |str j=>obtain⟨f,rfl⟩:=d;exact PySem.EqMixed.ne_bool_str (cD I q (by simp))
  | _=>exact absurd (show false=true from g) zh
 |int i =>
  obtain⟨t,rfl⟩:=l
  cases y with
  |non=>cases d;exact PySem.EqNone.ne_int_none (cD I q (by simp))
  |int j=>obtain⟨f,rfl⟩:=d;exact ne_int (cD I q (congrArg not CZ))
  |str j=>obtain⟨f,rfl⟩:=d;exact PySem.EqMixed.ne_int_str (cD I q (by simp))
  | _=>exact absurd (show false=true from g) zh
 |str i =>
  obtain⟨t,rfl⟩:=l
  cases y with
  |non=>cases d;exact PySem.EqNone.ne_str_none (cD I q (by simp))
  |bl j=>cases d;exact PySem.EqMixed.ne_str_bool (cD I q (by simp))
  |int j=>obtain⟨f,rfl⟩:=d;exact PySem.EqMixed.ne_str_int (cD I q (by simp))
  |str j=>obtain⟨f,rfl⟩:=d;exact ne_str (cD I q (congrArg not Dd))
  | _=>exact absurd (show false=true from g) zh
 |byt i =>
  obtain⟨t,rfl⟩:=l
  cases y with
  |byt j=>obtain⟨f,rfl⟩:=d;exact PySem.W.ne_bytes (cD I q (congrArg not De))
  | _=>exact absurd (show false=true from g) zh
 | _=>cases y<;>exact absurd (show false=true from g) zh
theorem Pk:OpR X (compareOp .Lt) (rI0 λi j=>.bl (decide (i<j))):=CV λ_ _ _ _ _ _ _ q=>lt_int q
theorem Pn:OpR X (compareOp .Gt) (rI0 λi j=>.bl (decide (j<i))):=CV λ_ _ _ _ _ _ _ q=>gt_int q
theorem Pq:OpR X (compareOp .In) (λx y H Q=>∃i j,x=.str i/\y=.str j/\Q (.bl (!(Builtin.Str.occurrences j i 0 j.length 1).isEmpty)) H):=by
 intro pins s σ H x y v u Q I f d h;obtain⟨i,j,rfl,rfl,q⟩:=h;obtain⟨t,rfl⟩:=f;obtain⟨g,rfl⟩:=d;exact in_str (cD I q rfl)
theorem bx(b:Expr){op:CmpOp}(h:op≠.In:=by decide)(h2:op≠.NotIn:=by decide):behindInMarks op b=false:=by
 have f:(op == CmpOp.In)=false:=by cases op<;>first | rfl | exact absurd rfl h
 have d:(op == CmpOp.NotIn)=false:=by cases op<;>first | rfl | exact absurd rfl h2
 cases b<;>simp[behindInMarks,f,d]
theorem Pu{op:CmpOp}{r:R2}(j:OpR X (compareOp op) r)(n:PE X a ta)(m:PE X b tb)(l:behindInMarks op b=false):PE X (.Compare a [op] [b] pos) (tOp r ta tb):=by
 intro pins s σ H Q I h;exact wpAny_Compare1 (uZ n m I h λv u d x y C B g f q=>j pins d σ C x y v u Q B g f q) l
def vf(t:TE):TT:=λσ H Q=>t σ H λx d=>∃k,x=.bl k/\Q k d
theorem Px{op:CmpOp}{r:R2}(d:OpR X (compareOp op) r)(j:PE X a ta)(g:PE X b tb)(f:behindInMarks op b=false):PT X (.Compare a [op] [b] pos) (vf (tOp r ta tb)):=by
 intro pins s σ H Q I h
 refine wpAny_isTrue_Compare1 (thn (j pins s σ H _ I h) λv s1 ⟨x,H1,I1,r1,q1⟩=>thn (g pins s1 σ H1 _ I1 q1) λu s2 ⟨y,H2,I2,r2,q2⟩ =>
  thn (d pins s2 σ H2 x y v u _ I2 r1 r2 q2) λc s3 ⟨z,H3,I3,r3,k,e,q3⟩=>?_) f
 subst e;cases r3;exact wpAny_truthy_bool ⟨H3,I3,q3⟩
def vg(K:PySem.W.Frag)(x:V)(H:Hp)(k:Bool):Prop :=
 match x with
 | .non=>k=false
 | .bl b=>k=b
 | .int i=>k=(i != 0)
 | .str y=>y.length<=sizeLine/\k=((y.length:Int) != 0)
 | .byt y=>y.size<=sizeLine/\k=((y.size:Int) != 0)
 | .ref p=>(∃d,SqL K H p d/\k = !d.isEmpty)\/(∃d,SqT K H p d/\k = !d.isEmpty)\/∃kvs,H p=some (.dK kvs)/\k = !kvs.isEmpty
 | _=>False
theorem Py{κ:Type}{kvs:List (κ×V)}{vs:List (κ×Value)}(r:KV kvs vs):(!vs.isEmpty) = !kvs.isEmpty:=by
 cases r<;>rfl
theorem Dg{xs:List V}{its:List Value}(r:aN xs its):(!its.toArray.isEmpty) = !xs.isEmpty:=by
 cases r<;>simp
theorem oJ:(sizeLine:Nat)<2 ^ 63:=by rw[sizeLine_eq];decide
theorem Pz:Ou X (λx H Q=>∃k,vg X.K x H k/\Q k H):=by
 intro pins s σ H x v Q I g h;obtain⟨k,e,q⟩:=h;have G:=oJ;have F:sizeLine=16777216:=sizeLine_eq
 cases x with
 |non =>
  cases g;have d:k=false:=e;subst d;exact truthy_none ⟨H,I,q⟩
 |bl b =>
  cases g;have d:k=b:=e;subst d;exact wpAny_truthy_bool ⟨H,I,q⟩
 |int i =>
  obtain⟨t,rfl⟩:=g;have d:k=(i != 0):=e;subst d;exact PySem.P.truthy_int ⟨H,I,q⟩
 |str y =>
  obtain⟨t,rfl⟩:=g;obtain⟨C,d⟩:y.length<=sizeLine/\k=((y.length:Int) != 0):=e;subst d;exact PySem.P.truthy_str (by omega) ⟨H,I.tok _,q⟩
 |byt y =>
  obtain⟨t,rfl⟩:=g;obtain⟨C,d⟩:y.size<=sizeLine/\k=((y.size:Int) != 0):=e;subst d;exact PySem.W.truthy_bytes (by omega) ⟨H,I.tok _,q⟩
 |ref p =>
  cases g;have d:(∃f,SqL X.K H p f/\k = !f.isEmpty)\/(∃f,SqT X.K H p f/\k = !f.isEmpty)\/∃kvs,H p=some (.dK kvs)/\k = !kvs.isEmpty:=e
  rcases d with⟨f,j,d⟩ | ⟨f,j,d⟩ | ⟨kvs,j,d⟩
  ·subst d;obtain⟨u,r,n,B⟩:=I.list j;have hlen:=r.length;exact wpAny_truthy_list n.isList (by simp only[zA];omega) ⟨H,I.tok _,by rw[Dg r];exact q⟩
  ·subst d;obtain⟨u,r,n,B⟩:=I.tuple j;have hlen:=r.length;exact truthy_tuple n (by simp only[zA];omega) ⟨H,I.tok _,by rw[Dg r];exact q⟩
  ·subst d;obtain⟨B,E,l,r,m⟩:kvs.length<=sizeLine/\(p == sysModules)=false/\∃l,KV kvs l/\s.heap.DictOf (dC X.prog X.w) p l:=I.hok p _ j;have hlen:kvs.length=l.length:=Paired.length r;exact wpAny_truthy_dict E m (by omega) ⟨H,I.tok _,by rw[Py r];exact q⟩
 | _=>exact(show False from e).elim
theorem PB(g:PE X a ta)(f:∀whole,isTrue a X.env whole=(do let v <-whole;standAt a.pos;holding [v] (truthy v))):
  PT X a (λσ H Q=>ta σ H λx d=>∃k,vg X.K x d k/\Q k d):=by
 intro pins s σ H Q I h;exact isTrue_plain (thn (g pins s σ H _ I h) λv s1 ⟨x,H1,I1,r1,q1⟩=>Pz pins s1 σ H1 x v Q I1 r1 q1) (f _)
theorem PJ:OpR X (binaryOp .Add) (λx y H Q=>∃i j,x=.str i/\y=.str j/\i.length+j.length<=sizeLine/\Q (.str (i++j)) H):=by
 intro pins s σ H x y v u Q I g f h;obtain⟨i,j,rfl,rfl,l,q⟩:=h;obtain⟨t,rfl⟩:=g;obtain⟨d,rfl⟩:=f;exact add_str (λd tk=>⟨.str (i++j),H,I.tok _,⟨_,rfl⟩,q⟩) l
theorem vals1{x:V}{us:List Value}(r:aN [x] us):∃u,us=[u]/\RelV x u:=by
 cases r with
 |cons f d=>cases d;exact⟨_,rfl,f⟩
theorem Dh:iY X (.type "int") (λxs H Q=>(∃i,xs=[.int i]/\Q (.int i) H)\/∃k,xs=[.bl k]/\Q (.int (if k then 1 else 0)) H):=by
 intro pins s σ H xs f Q I r h
 rcases h with⟨i,rfl,q⟩ | ⟨k,rfl,q⟩
 ·obtain⟨u,rfl,t,rfl⟩:=vals1 r;exact call_int_int ⟨.int i,H,I,⟨_,rfl⟩,q⟩
 ·obtain⟨u,rfl,d⟩:=vals1 r;cases d;exact call_int_bool ⟨.int (if k then 1 else 0),H,I.tok _,⟨_,rfl⟩,q⟩
def PK(K:PySem.W.Frag)(x:V)(H:Hp)(n:Nat):Prop :=
 match x with
 | .str y=>y.length<=sizeLine/\n=y.length
 | .byt y=>y.size<=sizeLine/\n=y.size
 | .ref p=>(∃d,SqL K H p d/\n=d.length)\/∃d,SqT K H p d/\n=d.length
 | _=>False
theorem call_len:iY X (.builtin "len") (λxs H Q=>∃x n,xs=[x]/\PK X.K x H n/\Q (.int n) H):=by
 intro pins s σ H xs E Q I r h;obtain⟨x,n,rfl,e,q⟩:=h;obtain⟨u,rfl,f⟩:=vals1 r;have G:=oJ;have F:sizeLine=16777216:=sizeLine_eq
 cases x with
 |str y =>
  obtain⟨t,rfl⟩:=f;obtain⟨C,d⟩:y.length<=sizeLine/\n=y.length:=e;subst d;exact len_str (by omega) ⟨.int _,H,I.tok _,⟨_,rfl⟩,q⟩
 |byt y =>
  obtain⟨t,rfl⟩:=f;obtain⟨C,d⟩:y.size<=sizeLine/\n=y.size:=e;subst d;exact PySem.W.len_bytes (by omega) ⟨.int _,H,I.tok _,⟨_,rfl⟩,q⟩
 |ref p =>
  cases f;have d:(∃xs,SqL X.K H p xs/\n=xs.length)\/∃xs,SqT X.K H p xs/\n=xs.length:=e
  rcases d with⟨xs,l,d⟩ | ⟨xs,l,d⟩
  ·subst d;obtain⟨m,g,j,B⟩:=I.list l;have hlen:=g.length;exact Calls.call_len_list j.isList (by simp only[zA];omega) ⟨.int xs.length,H,I.tok _,⟨_,by simp only[zA];rw[hlen]⟩,q⟩
  ·subst d;obtain⟨m,g,j,B⟩:=I.tuple l;have hlen:=g.length;exact len_tuple j (by simp only[zA];omega) ⟨.int xs.length,H,I.tok _,⟨_,by simp only[zA];rw[hlen]⟩,q⟩
 | _=>exact(show False from e).elim
end
structure kO(h:Heap)(x dx C:Addr)(mA:Str->Option Value):Prop where
 obj:h.get? x=some (PySem.W.instObj C dx)
 ns:h.Ns1 dx mA
 ne:dx≠x
theorem PL{h:Heap}{g:Addr}{d:Str->Option Value}(n:h.Ns1 g d):∃od,h.get? g=some od/\∀name,PySem.W.lookIn name od=some (d name):=by
 obtain⟨o,f,u,l,hd,r,_,m⟩:=n;refine⟨o,l,λname=>?_⟩;have e:=m name;unfold nsFind findBy at e;rw[<-Array.find?_toList] at e;unfold PySem.W.lookIn;rw[hd];dsimp only
 split
 ·rename_i y q;rw[q] at e;exact congrArg some e
 ·rename_i q;rw[q] at e
  have a:f.toList.any (·.refKey)=false:=by
   rw[List.any_eq_false];intro y j;obtain⟨z,t,c⟩:=r y (Array.mem_toList_iff.mp j);simp[DictEntry.refKey,c]
  have a':¬f.toList.any (·.refKey)=true:=by rw[a];exact zh
  rw[if_neg a'];exact congrArg some e
theorem kO.look{h:Heap}{x c C:Addr}{a:Str->Option Value}(I:kO h x c C a):∃od,PySem.W.InstAt h x (PySem.W.instObj C c) C (some od)/\∀name,PySem.W.lookIn name od=some (a name):=
 let ⟨od,ho,hl⟩:=PL I.ns
 ⟨od,⟨I.obj,rfl,rfl,ho⟩,hl⟩
section
variable {prog:Program}{w:World}{A:Around}{E:Value->Shared->Prop}{s:Shared}{K:PySem.W.Frag}{x dx C f:Addr}{mA:Str->Option Value}{name:Str}{v:Value}
theorem PN{expr:Bool}{Q:Value->Shared->Prop}(X:K.In s.heap)(I:kO s.heap x dx C mA)(g:PySem.W.plainGet K C name=true)(d:PySem.W.hasDictIn K C=true)
  (j:PySem.W.findIn K (.ref C) name=some none) (hv:mA name=some v) (a:PySem.W.handedIn v=true) (h:Q v {s with toks:=s.toks+1}):
  wpAny (model prog w) A (getAttr (.ref x) name expr) Q E s:=by
 obtain⟨l,J,c⟩:=I.look;exact PySem.W.get_value X J (PySem.W.plainGet_of g).1 (PySem.W.findObj_own d j rfl (by rw[c,hv])) a h
theorem PP{pl:Sem Bool}{Q:Value×List Value->Shared->Prop}(X:K.In s.heap)(I:kO s.heap x dx C mA)(a:PySem.W.plainGet K C name=true)
  (j:PySem.W.findIn K (.ref C) name=some (some (.ref f))) (d:PySem.W.isFn K (.ref f)=true) (hv:mA name=none) (h:Q (.ref f,[.ref x]) s):
  wpAny (model prog w) A (getMethod (.ref x) name pl) Q E s:=by
 obtain⟨c,J,g⟩:=I.look;exact PySem.W.method_fn X J (PySem.W.plainGet_of a).1 (PySem.W.plainGet_of a).2 j (beq_iff_eq.mp d) (by show(PySem.W.lookIn name c).map (·.isSome)=some false;rw[g,hv];rfl) h
theorem PQ{ns:List Str}{Q:Unit->Shared->Prop}(X:K.In s.heap)(I:kO s.heap x dx C mA)
  (hs:PySem.W.findIn K (.ref C) "__setattr__" = some (some (.builtin "object.__setattr__"))) (B:PySem.W.plainOver K C=true) (u:PySem.W.takerIn K C name=some none) (F:PySem.W.hasDictIn K C=true)
  (q:PySem.Within mA ns) (hsz:ns.length<=sizeLine)
  (h:∀h',kO h' x dx C (λy=>if y=name then some v else mA y)->Heap.SameBut dx s.heap h'->Q () {s with heap:=h',toks:=s.toks+2}):
  wpAny (model prog w) A (setAttr (.ref x) name v) Q E s:=by
 obtain⟨O,J,R⟩:=I.look;refine PySem.W.set_plain X J hs (PySem.W.osa_open (s:={s with toks:=s.toks+1}) (r:=none) X J B u λb=>?_);obtain⟨T,G,l⟩:=PySem.W.any_some F;have n:s.heap.get? x=some ⟨.ref C,some dx,.plain,#[]⟩:=I.obj;refine za (zb (za (za (wpAny_loadPart n (za (PySem.W.Looks.here (s:={s with toks:=s.toks+1}) (PySem.W.looks_clsIn X G) ?_))))));rw[l];refine zb (a:=some dx) (za (zb (za ?_)))
 refine wpAny_nsSet1 (s:={s with toks:=s.toks+1}) I.ns λh' d c=>?_
 obtain⟨P,H,L,g,j,m⟩:=d.count (PySem.Within.cons name v q);refine za (wpAny_lookBehind g (by rw[j];exact pastItsLine_dict (zG m (by rw[zv];omega))) ?_);exact zb (h _ ⟨(c.2 _ (Ne.symm I.ne)).trans I.obj,d,I.ne⟩ c)
theorem PX{R:Result->Shared->Prop}{vs:List Value}{a:List (Str×Value)}(X:K.In s.heap)(c:PySem.W.makesIn K C=true)
  (j:PySem.W.findIn K (.ref C) "__init__" = some (some (.ref f))) (l:PySem.W.typeIn K (.ref f)=some (.type "function"))
  (h:codeAny (model prog w) (A.under (.builtin "type.__call__" ⟨.ref C::vs,a⟩)) (.call (.ref f) ⟨.ref (s.heap.objs.size+1)::vs,a⟩) (PySem.W.InitBack (s.heap.objs.size+1) R)
   {s with heap:=(s.heap.push PySem.W.emptyDict).push (PySem.W.instObj C s.heap.objs.size)}):
  codeAny (model prog w) A (.call (.ref C) ⟨vs,a⟩) R s:=by
 obtain⟨m,g,d,t,os⟩:=s;exact PySem.W.make_core (PySem.W.makes_of X c) (PySem.W.looks_findIn X j) (λself=>PySem.W.bind_fn X self l) (.inl rfl) h
end
def dF(f:Str)(v:V):List (Str×V)->List (Str×V)
 | []=>[(f,v)]
 | (g,x)::r=>if g=f then(g,v)::r else(g,x)::dF f v r
theorem Di(f g:Str)(v:V):∀fs:List (Str×V),(dF f v fs).lookup g=if g=f then some v else fs.lookup g
 | []=>by
  show List.lookup g [(f,v)]=_
  by_cases h:g=f
  ·have a:(g == f)=true:=beq_iff_eq.mpr h;simp only[List.lookup,a,if_pos h]
  ·have a:(g == f)=false:=beq_eq_false_iff_ne.mpr h;simp only[List.lookup,a,if_neg h]
 | (k,x)::r=>by
  have d:=Di f g v r;rw[show dF f v ((k,x)::r)=(if k=f then(k,v)::r else(k,x)::dF f v r) from rfl]
  by_cases c:k=f
  ·rw[if_pos c]
   by_cases h:g=k
   ·have a:(g == k)=true:=beq_iff_eq.mpr h;simp only[List.lookup,a,if_pos (h.trans c)]
   ·have a:(g == k)=false:=beq_eq_false_iff_ne.mpr h;simp only[List.lookup,a,if_neg (λe:g=f=>h (e.trans c.symm))]
  ·rw[if_neg c]
   by_cases h:g=k
   ·have a:(g == k)=true:=beq_iff_eq.mpr h;simp only[List.lookup,a,if_neg (λe:g=f=>c (h.symm.trans e))]
   ·have a:(g == k)=false:=beq_eq_false_iff_ne.mpr h;simp only[List.lookup,a];exact d
theorem vh(f:Str)(v:V):∀fs:List (Str×V),f∈(dF f v fs).map (·.1)/\∀g,g∈fs.map (·.1)->g∈(dF f v fs).map (·.1)
 | []=>⟨by simp[dF],λg h=>by simp at h⟩
 | (k,x)::r=>by
  obtain⟨d,c⟩:=vh f v r;rw[show dF f v ((k,x)::r)=(if k=f then(k,v)::r else(k,x)::dF f v r) from rfl]
  by_cases a:k=f
  ·rw[if_pos a];subst a;exact⟨by simp,λg h=>by simpa using h⟩
  ·rw[if_neg a];refine⟨?_,λg h=>?_⟩
   ·rw[zd];exact zq _ d
   ·rw[zd] at h ⊢
    rcases zp.mp h with e | e
    ·exact zp.mpr (.inl e)
    ·exact zq _ (c g e)
theorem Dj(f:Str)(v:V):∀fs:List (Str×V),(dF f v fs).length<=fs.length+1
 | []=>by simp[dF]
 | (k,x)::r=>by
  have c:=Dj f v r;rw[show dF f v ((k,x)::r)=(if k=f then(k,v)::r else(k,x)::dF f v r) from rfl]
  by_cases a:k=f
  ·rw[if_pos a,zv,zv];omega
  ·rw[if_neg a,zv,zv];omega
theorem dD.some_of{v:V}{o:Option Value}(r:dD (some v) o):∃u,o=some u/\RelV v u:=by
 cases o with
 |none=>exact(show False from r).elim
 |some u=>exact⟨u,rfl,r⟩
theorem dD.none_of{o:Option Value}(r:dD none o):o=none:=by
 cases o with
 |none=>rfl
 |some u=>exact(show False from r).elim
theorem P0{v:V}{u:Value}(r:RelV v u):PySem.W.handedIn u=true:=by
 cases v with
 |non=>cases(show u=Value.none from r);rfl
 |bl b=>cases(show u=Value.bool b from r);rfl
 |int i=>obtain⟨t,e⟩:=(show ∃t,u=Value.int i t from r);cases e;rfl
 |str x=>obtain⟨t,e⟩:=(show ∃t,u=Value.str x t from r);cases e;rfl
 |byt b=>obtain⟨t,e⟩:=(show ∃t,u=Value.bytes b t from r);cases e;rfl
 |flt b=>obtain⟨t,e⟩:=(show ∃t,u=Value.float b t from r);cases e;rfl
 |ref a=>cases(show u=Value.ref a from r);rfl
 |ty n=>cases(show u=Value.type n from r);rfl
section
variable {P:Program}{w:World}{H H':Hp}{h h':Heap}{a C dx:Addr}{fs fs':List (Str×V)}
theorem vm(hok:HOk P w H h)(e:H a=some (.ins C dx fs)):∃c,kO h a dx C c/\(∀f,dD (fs.lookup f) (c f))/\PySem.Within c (fs.map (·.1))/\fs.length<=1000/\H dx=some (.own a):=by
 obtain⟨d,z,ne,ob,c,n,r,q⟩:=(show bW P w H h a (.ins C dx fs) from hok a _ e);exact⟨c,⟨ob,n,ne⟩,r,q,z,d⟩
end
structure Cls(K:PySem.W.Frag)(C:Addr):Prop where
 pg:PySem.W.plainGet K C Str.empty=true
 hd:PySem.W.hasDictIn K C=true
 po:PySem.W.plainOver K C=true
 sa:PySem.W.findIn K (.ref C) "__setattr__" = some (some (.builtin "object.__setattr__"))
theorem Cls.get{K:PySem.W.Frag}{C:Addr}(c:Cls K C)(f:Str):PySem.W.plainGet K C f=true:=c.pg
def kW(K:PySem.W.Frag)(C:Addr)(f:Str):Prop:=PySem.W.findIn K (.ref C) f=some none
theorem kW.taker{K:PySem.W.Frag}{C:Addr}{f:Str}(n:kW K C f):PySem.W.takerIn K C f=some none:=by
 unfold PySem.W.takerIn;rw[show PySem.W.findIn K (.ref C) f=some none from n];rfl
structure Con(K:PySem.W.Frag)(C:Addr)(f:Str)(v:V)(u:Value):Prop where
 at_:PySem.W.findIn K (.ref C) f=some (some u)
 rel:RelV v u
 get:PySem.W.specialIn K u "__get__" = some none
 cp:PySem.W.copiedNames.contains f=false
structure kY(K:PySem.W.Frag)(C:Addr)(m:Str)(f:Addr):Prop where
 at_:PySem.W.findIn K (.ref C) m=some (some (.ref f))
 fn:PySem.W.isFn K (.ref f)=true
 kp:PySem.W.keepIn K (.ref f)=true
section
variable {X:Cx}{pins:List (Addr×Obj)}{σ:St}{H:Hp}{s:Shared}{a C dx:Addr}{fs:List (Str×V)}{f:Str}{v:V}{A:Around}{E:Value->Shared->Prop}
theorem Qa{b:Bool}{Q:Value->Shared->Prop}(I:Inv X pins σ H s)(e:H a=some (.ins C dx fs))(c:Cls X.K C)(n:kW X.K C f)(l:fs.lookup f=some v)
  (h:∀u d,Inv X pins σ H d->RelV v u->Q u d):wpAny (model X.prog X.w) A (getAttr (.ref a) f b) Q E s:=by
 obtain⟨j,O,r,_,_,_⟩:=vm I.hok e;obtain⟨u,m,g⟩:=dD.some_of (v:=v) (o:=j f) (by rw[<-l];exact r f);exact PN I.kIn O (c.get f) c.hd n m (P0 g) (h u _ (I.tok _) g)
theorem Dk{m:Str}{g:Addr}{pl:Sem Bool}{Q:Value×List Value->Shared->Prop}(I:Inv X pins σ H s)(e:H a=some (.ins C dx fs))(c:Cls X.K C)(k:kY X.K C m g)(l:fs.lookup m=none)
  (h:Q (.ref g,[.ref a]) s):wpAny (model X.prog X.w) A (getMethod (.ref a) m pl) Q E s:=by
 obtain⟨d,O,r,_,_,_⟩:=vm I.hok e;have j:d m=none:=dD.none_of (by rw[<-l];exact r m);exact PP I.kIn O (c.get m) k.at_ k.fn j h
theorem Qc{y:V}{u:Value}{Q:Unit->Shared->Prop}(I:Inv X pins σ H s)(e:H a=some (.ins C dx fs))(c:Cls X.K C)(n:kW X.K C f)(T:fs.length<1000)(G:RelV y u)
  (h:∀l,Inv X pins σ (upd H a (.ins C dx (dF f y fs))) l->Q () l):wpAny (model X.prog X.w) A (setAttr (.ref a) f u) Q E s:=by
 obtain⟨m,O,r,j,_,B⟩:=vm I.hok e
 have J:(fs.map (·.1)).length<=sizeLine:=by rw[zf,sizeLine_eq];omega
 refine PQ I.kIn O c.sa c.po n.taker c.hd j J λR d F=>h _ ?_
 have hd:∃o,R.get? dx=some o:=let ⟨o,_,_,e',_⟩:=d.ns;⟨o,e'⟩;refine I.write (x:=a) (e:=dx) (by rw[e];exact True.intro) (.inr B) (λb q P z=>(F.2 b P).trans z) hd ?_;refine⟨by rw[aL O.ne];exact B,?_,O.ne,d.obj,_,d.ns,λg=>?_,λg L=>?_⟩
 ·have:=Dj f y fs;omega
 ·show dD ((dF f y fs).lookup g) (if g=f then some u else m g);rw[Di]
  by_cases q:g=f
  ·rw[if_pos q,if_pos q];exact G
  ·rw[if_neg q,if_neg q];exact r g
 ·by_cases q:g=f
  ·rw[q];exact(vh f y fs).1
  ·refine(vh f y fs).2 g (j g λz=>L ?_);show(if g=f then some u else m g)=none;rw[if_neg q];exact z
theorem Inv.made(I:Inv X pins σ H s):Inv X pins σ (upd (upd H s.heap.objs.size (.own (s.heap.objs.size+1))) (s.heap.objs.size+1) (.ins C s.heap.objs.size []))
  {s with heap:=(s.heap.push PySem.W.emptyDict).push (PySem.W.instObj C s.heap.objs.size)}:=by
 have c:(s.heap.push PySem.W.emptyDict).get? s.heap.objs.size=some PySem.W.emptyDict:=zx s.heap rfl
 have l:((s.heap.push PySem.W.emptyDict).push (PySem.W.instObj C s.heap.objs.size)).get? (s.heap.objs.size+1)=some (PySem.W.instObj C s.heap.objs.size):=by
  have:=zx (s.heap.push PySem.W.emptyDict) (o:=PySem.W.instObj C s.heap.objs.size) rfl
  rwa [Heap.size_push] at this
 have j:(s.heap.push PySem.W.emptyDict).Ns s.heap.objs.size (λ_=>none):=⟨PySem.W.emptyDict,#[],_,c,rfl,(λe g=>absurd g (by simp)),λ_=>rfl⟩;have m:=I.laid (a:=s.heap.objs.size) (o:=.own (s.heap.objs.size+1)) (h':=s.heap.push PySem.W.emptyDict) (t':=s.toks) (λb u q=>zl _ q) (zc _) ⟨_,c⟩;refine m.laid (a:=s.heap.objs.size+1) (o:=.ins C s.heap.objs.size []) (t':=s.toks) (λb u q=>zl _ q) (Nat.le_of_eq (Heap.size_push _ _)) ?_;have ne:s.heap.objs.size≠s.heap.objs.size+1:=zo (zZ _);refine⟨by rw[aL ne,bI],Nat.zero_le _,ne,l,λ_=>none,(Heap.Ns1.of_empty j).at λo q=>zl _ q,λ_=>True.intro,λy d=>absurd rfl d⟩
theorem Qd{prog:Program}{w:World}{env:Env}{e:Expr}{f:Str}{d:Pos}{s:Shared}{Q:Value->Shared->Prop}(g:attributeBase e f env (eval e env)=eval e env)
  (h:wpAny (model prog w) A (eval e env) (λo c=>wpAny (model prog w) A (getAttr o f true) Q E c) E s):wpAny (model prog w) A (eval (.Attribute e f d) env) Q E s :=
 Attribute_any_ h (by rw[arm_eval_Attribute,g])
end
def Qe(K:PySem.W.Frag)(d:TE)(f:Str):TE:=λσ H Q=>d σ H λx c=>∃a C g fs v,x=.ref a/\c a=some (.ins C g fs)/\Cls K C/\kW K C f/\fs.lookup f=some v/\Q v c
def Qf(K:PySem.W.Frag)(j g:TE)(f:Str):TS:=λD σ H=>g σ H λy l=>j σ l λx d=>∃a C c fs,x=.ref a/\d a=some (.ins C c fs)/\Cls K C/\kW K C f/\fs.length<1000 /\
 D.nx σ (upd d a (.ins C c (dF f y fs)))
section
variable {X:Cx}{o e value:Expr}{f:Str}{pos pos' tpos:Pos}{ta tv:TE}
theorem Qg(g:PE X e ta)(j:attributeBase e f X.env (eval e X.env)=eval e X.env):PE X (.Attribute e f pos) (Qe X.K ta f):=by
 intro pins s σ H Q I h;refine Qd j (thn (g pins s σ H _ I h) λu s1 ⟨x,H1,I1,rx,a,C,dx,fs,v,ex,ea,c,n,l,q⟩=>?_);subst ex;obtain rfl:u=Value.ref a:=rx
 exact Qa I1 ea c n l λr y m d=>⟨v,H1,m,d,q⟩
theorem Qh(d:PE X o ta)(hv:PE X value tv)(hs:swapsWith value (some (.Attribute o f pos')) pos.line X.env=pure false):PS X (.Assign [.Attribute o f pos'] value pos) (Qf X.K ta tv f):=by
 intro pins s σ H D I h;refine plainObj_wpAny_Assign_Attribute (thn (hv pins s σ H _ I h) λu s1 ⟨y,H1,I1,ry,q⟩=>thn (d pins s1 σ H1 _ I1 q) λov s2 ⟨x,H2,I2,rx,a,C,dx,fs,ex,ea,c,n,l,q2⟩=>?_) hs;subst ex;obtain rfl:ov=Value.ref a:=rx
 exact Qc I2 ea c n l ry λj g=>⟨σ,_,g,q2⟩
end
section
variable {X:Cx}{pins:List (Addr×Obj)}{σ:St}{H:Hp}{s:Shared}{A:Around}{E:Value->Shared->Prop}{Q:Value->Shared->Prop}{c:Value}{b:Bool}
inductive gD (K:PySem.W.Frag) (H:Hp):V->Value->Prop where
 | non:gD K H .non (.type "NoneType")
 | bl (x:Bool):gD K H (.bl x) (.type "bool")
 | int (i:Int):gD K H (.int i) (.type "int")
 | str (x:Str):gD K H (.str x) (.type "str")
 | flt (x:UInt64):gD K H (.flt x) (.type "float")
 | lst {a:Addr}{xs:List V} (e:H a=some (.lst xs)):gD K H (.ref a) (.type "list")
 | frz {a:Addr}{o:Obj}{xs:List V} (e:H a=some (.frz o (.lst xs))):gD K H (.ref a) (.type "list")
 | tup {a:Addr}{xs:List V} (e:H a=some (.tup xs)):gD K H (.ref a) (.type "tuple")
 | dK {a:Addr}{kvs:List (Key×V)} (e:H a=some (.dK kvs)):gD K H (.ref a) (.type "dict")
 | dT {a:Addr}{kvs:List (List Key×V)} (e:H a=some (.dT kvs)):gD K H (.ref a) (.type "dict")
 | ins {a C dx:Addr}{fs:List (Str×V)} (e:H a=some (.ins C dx fs)) (cl:Cls K C) (ha:PySem.W.findIn K (.ref C) "__class__" = some (some (.builtin "object.__class__")))
   (hn:PySem.W.specialIn K (.builtin "object.__class__") "__get__" = some (some (.builtin "getset_descriptor.__get__"))) (htk:PySem.W.takesIn K (.builtin "object.__class__")=some true)
   (hm:PySem.W.mroIn K C (.type "object")=some true):gD K H (.ref a) (.ref C)
end
structure bj(k:Nat)(A:Around):Prop where
 hd:A.handled=none
 dp:A.depth+3 * k+5<recursionLimit
 un:A.units+16 * k+200<cLine
theorem bj.mono{j k:Nat}{A:Around}(r:bj k A)(h:j<=k):bj j A:=⟨r.hd,by have:=r.dp;omega,by have:=r.un;omega⟩
theorem bj.deeper{k:Nat}{A:Around}(r:bj (k+1) A)(env:Env):bj k (A.deeper env):=
 ⟨r.hd,by have:=r.dp;show A.depth+1+3 * k+5<_;omega,by have:=r.un;show A.units+3+16 * k+200<_;omega⟩
theorem bj.in1{k:Nat}{A:Around}(r:bj (k+1) A):bj k A.in1 :=
 ⟨r.hd,by have:=r.dp;show A.depth+3 * k+5<_;omega,by have:=r.un;show A.units+1+16 * k+200<_;omega⟩
theorem Qi{A:Around}{C:Addr}{us:List Value}{a:List (Str×Value)}:(A.under (.builtin "type.__call__" ⟨.ref C::us,a⟩)).depth=A.depth+1:=by
 first | rfl | simp[Around.under,Code.weight,Code.isCreation,Code.isGuard,Code.isCaller,Code.frames,Code.isFrame,guardIds]
theorem Qj{A:Around}{C:Addr}{us:List Value}{a:List (Str×Value)}:(A.under (.builtin "type.__call__" ⟨.ref C::us,a⟩)).units=A.units+1:=by
 first | rfl | simp[Around.under,Code.cUnits,Code.frames,Code.isFrame]
theorem bj.make{k:Nat}{A:Around}(r:bj (k+1) A)(C:Addr)(us:List Value)(a:List (Str×Value)):bj k (A.under (.builtin "type.__call__" ⟨.ref C::us,a⟩)):=
 ⟨r.hd,by have:=r.dp;rw[Qi];omega,by have:=r.un;rw[Qj];omega⟩
theorem bj.depth{k:Nat}{A:Around}(r:bj k A):A.depth<recursionLimit:=by have:=r.dp;omega
theorem bj.units{k:Nat}{A:Around}(r:bj k A):A.units+64<cLine:=by have:=r.un;omega
def qM:TA:=λ_ H Q=>Q [] H
def Qk(c:TE)(tr:TA):TA:=λσ H Q=>c σ H λx f=>tr σ f λa d=>Q (x::a) d
section
variable {X:Cx}{e:Expr}{es:List Expr}{te:TE}{t:TA}{pos:Pos}
theorem qN:PA X [] qM:=λ_ _ _ _ H Q I h=>Calls.spliced_nil ⟨[],H,I,.nil,h⟩
theorem qO(c:PE X e te)(a:PA X es t)(hs:starEach (e::es) X.env=(false,eval e X.env)::starEach es X.env:=by rfl):PA X (e::es) (Qk te t):=by
 intro pos pins s σ H Q I h;rw[hs];show wpAny _ _ (spliced ((false,eval e X.env)::backTo pos (starEach es X.env))) _ _ s;refine Calls.spliced_cons (thn (c pins s σ H _ I h) λu s1 ⟨x,H1,I1,r1,q1⟩=>?_)
 exact thn (a pos pins s1 σ H1 _ I1 q1) λus s2 ⟨xs,H2,I2,r2,q2⟩=>⟨x::xs,H2,I2,.cons r1 r2,q2⟩
def Ql(t:TA):TE:=λσ H Q=>t σ H λa c=>a.length<=sizeLine/\∀p,c p=none->Q (.ref p) (upd c p (.tup a))
def Qm(t:TA):TE:=λσ H Q=>t σ H λa c=>a.length<=sizeLine/\∀p,c p=none->Q (.ref p) (upd c p (.lst a))
theorem Qn{x1}(h:PA X es t):PE X (.Tuple es x1 pos) (Ql t):=by
 intro pins s σ H Q I a;refine wpAny_Tuple_spliced (thn (h pos pins s σ H _ I a) λus s1 ⟨xs,H1,I1,r,z,q⟩=>⟨by rw[<-r.length];exact z,?_⟩);have c:H1 s1.heap.objs.size=none:=I1.hok.fresh (zc _);refine⟨.ref s1.heap.objs.size,upd H1 s1.heap.objs.size (.tup xs),I1.laid (t':=s1.toks) (λb u e=>zl _ e) (zc _) ?_,rfl,q _ c⟩;exact⟨z,us,r,⟨_,zx _ rfl,rfl,_,rfl⟩⟩
theorem Qo(h:PA X es t):PE X (.List es pos) (Qm t):=by
 intro pins s σ H Q I a;refine wpAny_List_spliced (thn (h pos pins s σ H _ I a) λus s1 ⟨xs,H1,I1,r,z,q⟩=>⟨by rw[<-r.length];exact z,?_⟩);have c:H1 s1.heap.objs.size=none:=I1.hok.fresh (zc _);refine⟨.ref s1.heap.objs.size,upd H1 s1.heap.objs.size (.lst xs),I1.laid (t':=s1.toks) (λb u e=>zl _ e) (zc _) ?_,rfl,q _ c⟩;exact⟨z,us,0,r,zx _ rfl⟩
end
abbrev Sp:=List V->Hp->VK->XK->Prop
abbrev CXT:=List Env->Hp->Shared->XK->Value->Shared->Prop
structure fK(P:Program)(w:World)(K:PySem.W.Frag)(mg:Str->Option Value)(base:Heap)(A:Around)(outer:List Env)(s:Shared)(H:Hp):Prop where
 frames:A.frames=some outer
 mod:Mod K mg base
 bs:∀b o,base.get? b=some o->s.heap.get? b=some o/\H b=none
 bsz:base.objs.size<=s.heap.objs.size
 funs:s.heap.FunFrames base outer
 frf:∀b∈frs outer,H b=none
 hok:HOk P w H s.heap
 bare:AllBare s.gens
def CE(outer:List Env)(P:Program)(w:World)(H:Hp)(s:Shared)(Q:VK)(u:Value)(a:Shared):Prop :=
 ∃v c,a.os=s.os/\AllBare a.gens/\Un (frs outer) [] H c s.heap a.heap/\HOk P w c a.heap/\RelV v u/\Q v c
def CR(CX:CXT)(outer:List Env)(P:Program)(w:World)(H:Hp)(s:Shared)(Q:VK)(E:XK)(r:Result)(a:Shared):Prop :=
 match r with
 | .ok (.ret u)=>CE outer P w H s Q u a
 | .ok _=>False
 | .error e=>CX outer H s E e a
structure cj(P:Program)(w:World)(K:PySem.W.Frag)(mg:Str->Option Value)(base:Heap)(CX:CXT)(k:Nat)(f:Addr)(fd:FuncData)(ps:List Str)(sp:Sp):Prop where
 len:∀vs H Q E,sp vs H Q E->vs.length=ps.length
 run:∀(A:Around) (outer:List Env) (s:Shared) (H:Hp) (args:Args) (us:List Value) (vs:List V) (Q:VK) (E:XK),bj k A->fK P w K mg base A outer s H->BindsTo s fd args (ps.zip us)->aN vs us->sp vs H Q E ->
  codeAny (model P w) A (.call (.ref f) args) (CR CX outer P w H s Q E) s
theorem cj.mono{P:Program}{w:World}{K:PySem.W.Frag}{mg:Str->Option Value}{base:Heap}{CX:CXT}{j k:Nat}{f:Addr}{fd:FuncData}{ps:List Str}{sp:Sp}(F:cj P w K mg base CX j f fd ps sp)(h:j<=k):
  cj P w K mg base CX k f fd ps sp:=⟨F.len,λA outer s H args c a Q E d=>F.run A outer s H args c a Q E (d.mono h)⟩
theorem cj.imp{P:Program}{w:World}{K:PySem.W.Frag}{mg:Str->Option Value}{base:Heap}{CX:CXT}{k:Nat}{f:Addr}{fd:FuncData}{ps:List Str}{sp a:Sp}(F:cj P w K mg base CX k f fd ps sp)
  (h:∀vs H Q E,a vs H Q E->sp vs H Q E):cj P w K mg base CX k f fd ps a :=
 ⟨λvs H Q E q=>F.len vs H Q E (h _ _ _ _ q),λA outer s H args c vs Q E j l m d g=>F.run A outer s H args c vs Q E j l m d (h _ _ _ _ g)⟩
theorem fK.make{P:Program}{w:World}{K:PySem.W.Frag}{mg:Str->Option Value}{base:Heap}{A:Around}{outer:List Env}{s:Shared}{H:Hp}(e:fK P w K mg base A outer s H)(C:Addr)(us:List Value)(a:List (Str×Value)):
  fK P w K mg base (A.under (.builtin "type.__call__" ⟨.ref C::us,a⟩)) outer s H:=⟨by first | exact e.frames | (simpa [Around.under,Code.envs,Code.isFrame,pushEnvs] using e.frames),e.mod,e.bs,e.bsz,e.funs,e.frf,e.hok,e.bare⟩
theorem fK.in1{P:Program}{w:World}{K:PySem.W.Frag}{mg:Str->Option Value}{base:Heap}{A:Around}{outer:List Env}{s:Shared}{H:Hp}(e:fK P w K mg base A outer s H):
  fK P w K mg base A.in1 outer s H:=⟨e.frames,e.mod,e.bs,e.bsz,e.funs,e.frf,e.hok,e.bare⟩
section
variable {X:Cx}{pins:List (Addr×Obj)}{σ:St}{H:Hp}{s s':Shared}
theorem Inv.env0(I:Inv X pins σ H s):fK X.prog X.w X.K X.mg X.base X.A X.stack s H :=
 ⟨I.ok.frames,I.ok.mod,I.bs,zG I.ok.bsz I.sz,I.stack,I.stkFree,I.hok,I.bare⟩
theorem Inv.after{Q:VK}{u:Value}(I:Inv X pins σ H s)(h:CE X.stack X.prog X.w H s Q u s'):EP X pins σ Q u s':=by
 obtain⟨v,f,os,bare,un,hok,r,q⟩:=h;obtain⟨c,g,d,t,a⟩:=s';obtain rfl:a=s.os:=os;exact⟨v,f,I.call (h':=c) (g':=g) (d':=d) (t':=t) (ch:=[]) un hok bare (λb z=>absurd z (by simp)),r,q⟩
end
def oK(sp:Sp)(dvs:List V)(E:XK)(t:TA):TE:=λσ H Q=>t σ H λa c=>sp (a++dvs) c Q E
def vo(C:Addr)(m:Str)(sp:Sp)(dvs:List V)(E:XK)(f:TE)(t:TA):TE:=λσ H Q=>f σ H λx c=>∃a g fs,x=.ref a/\c a=some (.ins C g fs)/\fs.lookup m=none /\
 t σ c λd j=>sp (x::(d++dvs)) j Q E
def Dl(C:Addr)(sp:Sp)(dvs:List V)(E:XK)(t:TA):TE:=λσ H Q=>t σ H λd c=>∀x a,c x=none->c a=none->a≠x ->
 sp (.ref x::(d++dvs)) (upd (upd c a (.own x)) x (.ins C a [])) (λv f=>v=.non/\Q (.ref x) f) E
def Binds(K:PySem.W.Frag)(fd:FuncData)(ps:List Str)(ds:List Value):Prop :=
 ∀(s:Shared) (a:List Value),K.In s.heap->(a++ds).length=ps.length->BindsTo s fd ⟨a,[]⟩ (ps.zip (a++ds))
theorem Binds.all{K:PySem.W.Frag}{fd:FuncData}{ps:List Str}(h:∀us:List Value,us.length=ps.length->bindArgs fd ⟨us,[]⟩=pure (ps.zip us)):Binds K fd ps []:=λs us _ a=>by
 rw[zX] at a ⊢;exact .of_eq (h us a)
def jN(CX:CXT)(X:Cx)(E:XK):Prop:=∀(pins:List (Addr×Obj)) (σ:St) (H:Hp) (s:Shared) (e:Value) (a:Shared),Inv X pins σ H s->CX X.stack H s E e a->X.xe e a
section
variable {X:Cx}{CX:CXT}{k:Nat}{f C:Addr}{fd:FuncData}{ps:List Str}{sp:Sp}{dvs:List V}{ds:List Value}{E:XK}{x m:Str}{p pos apos:Pos}{e o:Expr}{es:List Expr}{ta:TE}{t:TA}
theorem qP{pins:List (Addr×Obj)}{σ:St}{H:Hp}{s:Shared}{Q:VK}{us:List Value}{vs:List V}(F:cj X.prog X.w X.K X.mg X.base CX k f fd ps sp)(j:bj k X.A)(n:Binds X.K fd ps ds)(hd:aN dvs ds)(g:jN CX X E)
  (I:Inv X pins σ H s) (r:aN vs us) (h:sp (vs++dvs) H Q E):wpAny (model X.prog X.w) X.A (call (.ref f) us) (EP X pins σ Q) X.xe s:=by
 have c:aN (vs++dvs) (us++ds):=r.append hd
 have l:(us++ds).length=ps.length:=by rw[<-c.length];exact F.len _ _ _ _ h
 refine wpAny_call (codeAny_mono (F.run X.A X.stack s H ⟨us,[]⟩ (us++ds) (vs++dvs) Q E j I.env0 (n s us I.kIn l) c h) λr d a=>?_)
 cases r with
 |error e=>exact g pins σ H s e d I a
 |ok fl =>
  cases fl with
  |ret u=>exact I.after a
  |next=>exact False.elim a
  |brk=>exact False.elim a
  |cont=>exact False.elim a
theorem Qp(F:cj X.prog X.w X.K X.mg X.base CX k f fd ps sp)(g:bj k X.A)(n:Gl X x)(j:X.mg x=some (.ref f))(l:PySem.W.keepIn X.K (.ref f)=true)(y:Binds X.K fd ps ds)(hd:aN dvs ds)(d:jN CX X E)
  (B:PA X (e::es) t) (c:(x == ("__debug__":Str))=false:=by decide) (u:starEach (e::es) X.env=(false,eval e X.env)::starEach es X.env:=by rfl) (a:(backTo pos (starEach es X.env)).any (·.1)=false:=by rfl):
  PE X (.Call (.Name x p) (e::es) [] pos) (oK sp dvs E t):=by
 intro pins s σ H Q I h;refine wpAny_Call_Name_kw (qJ I n j ?_ c);refine PySem.W.callWith_K (h₀:=X.base) I.ok.mod.kin l (thn (B pos pins s σ H _ I h) λus s1 ⟨vs,H1,I1,r,q⟩=>⟨I1.kIn,?_⟩) u a;exact qP F g y hd d I1 r q
theorem Qq(F:cj X.prog X.w X.K X.mg X.base CX k f fd ps sp)(d:bj k X.A)(l:Gl X x)(g:X.mg x=some (.ref f))(j:PySem.W.keepIn X.K (.ref f)=true)(n:Binds X.K fd ps ds)(hd:aN dvs ds)(c:jN CX X E)
  (a:(x == ("__debug__":Str))=false:=by decide):PE X (.Call (.Name x p) [] [] pos) (oK sp dvs E qM):=by
 intro pins s σ H Q I h;refine wpAny_Call_Name_kw (qJ I l g ?_ a);exact PySem.W.callWith_K0 I.kIn j (qP (us:=[]) F d n hd c I .nil h)
theorem Qs{pl:Sem Bool}(G:PE X o ta)(c:Cls X.K C)(j:kY X.K C m f)(F:cj X.prog X.w X.K X.mg X.base CX k f fd ps sp)(B:bj k X.A)(J:Binds X.K fd ps ds)(hd:aN dvs ds)(n:jN CX X E)(L:PA X (e::es) t)
  (d:starEach (e::es) X.env=(false,eval e X.env)::starEach es X.env:=by rfl) (g:(backTo pos (starEach es X.env)).any (·.1)=false:=by rfl)
  (y:eval (.Call (.Attribute o m apos) (e::es) [] pos) X.env=(do
   let ov <-eval o X.env
   standAt apos.atName
   let (f,first) <-holding [ov] (getMethod ov m pl)
   callWith pos f first (backTo pos (starEach (e::es) X.env)) (backToKw pos (keywordEach [] X.env))):=by rfl):
  PE X (.Call (.Attribute o m apos) (e::es) [] pos) (vo C m sp dvs E ta t):=by
 intro pins s σ H Q I h;refine PySem.W.methodCall_KW (pl:=pl) (thn (G pins s σ H _ I h) λu s1 ⟨x,H1,I1,rx,a,dx,fs,ex,ea,l,q⟩=>?_) y;subst ex;obtain rfl:u=Value.ref a:=rx;refine Dk I1 ea c j l ?_;refine PySem.W.callWith_K (first:=[.ref a]) (h₀:=X.base) I.ok.mod.kin j.kp (thn (L pos pins s1 σ H1 _ I1 q) λus s2 ⟨vs,H2,I2,r,q2⟩=>⟨I2.kIn,?_⟩) d g;exact qP (us:=.ref a::us) (vs:=.ref a::vs) F B J hd n I2 (.cons rfl r) q2
theorem Qt{pl:Sem Bool}(r:PE X o ta)(c:Cls X.K C)(d:kY X.K C m f)(F:cj X.prog X.w X.K X.mg X.base CX k f fd ps sp)(n:bj k X.A)(y:Binds X.K fd ps ds)(hd:aN dvs ds)(g:jN CX X E)
  (j:eval (.Call (.Attribute o m apos) [] [] pos) X.env=(do
   let ov <-eval o X.env
   standAt apos.atName
   let (f,first) <-holding [ov] (getMethod ov m pl)
   callWith pos f first (backTo pos (starEach [] X.env)) (backToKw pos (keywordEach [] X.env))):=by rfl):
  PE X (.Call (.Attribute o m apos) [] [] pos) (vo C m sp dvs E ta qM):=by
 intro pins s σ H Q I h;refine PySem.W.methodCall_KW (pl:=pl) (thn (r pins s σ H _ I h) λu s1 ⟨x,H1,I1,rx,a,dx,fs,ex,ea,l,q⟩=>?_) j;subst ex;obtain rfl:u=Value.ref a:=rx;refine Dk I1 ea c d l ?_;exact PySem.W.callWith_K0 (first:=[.ref a]) I1.kIn d.kp (qP (us:=[.ref a]) (vs:=[.ref a]) F n y hd g I1 (.cons rfl .nil) q)
structure Mk(K:PySem.W.Frag)(C f:Addr):Prop where
 makes:PySem.W.makesIn K C=true
 init:PySem.W.findIn K (.ref C) "__init__" = some (some (.ref f))
 fn:PySem.W.isFn K (.ref f)=true
 kp:PySem.W.keepIn K (.ref C)=true
theorem Qu{pins:List (Addr×Obj)}{σ:St}{H:Hp}{s:Shared}{Q:VK}{us:List Value}{vs:List V}(M:Mk X.K C f)(F:cj X.prog X.w X.K X.mg X.base CX k f fd ps sp)(y:bj (k+1) X.A)(G:Binds X.K fd ps ds)(hd:aN dvs ds)
  (q:jN CX X E) (I:Inv X pins σ H s) (r:aN vs us)
  (h:∀x c,H x=none->H c=none->c≠x->sp (.ref x::(vs++dvs)) (upd (upd H c (.own x)) x (.ins C c [])) (λv O=>v=.non/\Q (.ref x) O) E):
  wpAny (model X.prog X.w) X.A (call (.ref C) us) (EP X pins σ Q) X.xe s:=by
 have j:=h (s.heap.objs.size+1) s.heap.objs.size (I.hok.fresh (Nat.le_succ _)) (I.hok.fresh (zc _)) (zo (zZ _));have d:=Inv.made (C:=C) I;have g:aN (V.ref (s.heap.objs.size+1)::(vs++dvs)) (Value.ref (s.heap.objs.size+1)::(us++ds)):=.cons rfl (r.append hd)
 have B:(Value.ref (s.heap.objs.size+1)::us++ds).length=ps.length:=by
  have e:=g.length;rw[F.len _ _ _ _ j] at e;exact e.symm
 refine wpAny_call (PX (f:=f) I.kIn M.makes M.init (beq_iff_eq.mp M.fn) (codeAny_mono (F.run _ X.stack _ _ ⟨Value.ref (s.heap.objs.size+1)::us,[]⟩ (Value.ref (s.heap.objs.size+1)::(us++ds)) _ _ E (y.make C us [])
  (d.env0.make C us []) (G _ (Value.ref (s.heap.objs.size+1)::us) d.kIn B) g j) λr l a=>?_))
 cases r with
 |error e=>exact q pins σ _ _ e l d a
 |ok fl =>
  cases fl with
  |ret u =>
   obtain⟨v,P,L,rv,J,n⟩:=d.after a;subst J;exact⟨rv,⟨V.ref (s.heap.objs.size+1),P,L,rfl,n⟩⟩
  |next=>exact False.elim a
  |brk=>exact False.elim a
  |cont=>exact False.elim a
theorem Qv(M:Mk X.K C f)(F:cj X.prog X.w X.K X.mg X.base CX k f fd ps sp)(g:bj (k+1) X.A)(l:Gl X x)(j:X.mg x=some (.ref C))(u:Binds X.K fd ps ds)(hd:aN dvs ds)(d:jN CX X E)
  (y:PA X (e::es) t) (c:(x == ("__debug__":Str))=false:=by decide) (n:starEach (e::es) X.env=(false,eval e X.env)::starEach es X.env:=by rfl) (a:(backTo pos (starEach es X.env)).any (·.1)=false:=by rfl):
  PE X (.Call (.Name x p) (e::es) [] pos) (Dl C sp dvs E t):=by
 intro pins s σ H Q I h;refine wpAny_Call_Name_kw (qJ I l j ?_ c);refine PySem.W.callWith_K (h₀:=X.base) I.ok.mod.kin M.kp (thn (y pos pins s σ H _ I h) λus s1 ⟨vs,H1,I1,r,q⟩=>⟨I1.kIn,?_⟩) n a;exact Qu M F g u hd d I1 r q
end
section
variable {X:Cx}{CX:CXT}{k:Nat}{f C:Addr}{fd:FuncData}{ps ks:List Str}{sp:Sp}{E:XK}{x m:Str}{p pos apos kpos:Pos}{e o:Expr}{es:List Expr}{kws:List Keyword}{te ta:TE}{t tk:TA}{nm:Option Str}
structure QyX(K:PySem.W.Frag)(fd:FuncData)(ps ks:List Str)(g:List Value->List Value->List Value)(gV:List V->List V->List V):Prop where
 to:∀(s:Shared) (us ws:List Value),K.In s.heap->(g us ws).length=ps.length->BindsTo s fd ⟨us,ks.zip ws⟩ (ps.zip (g us ws))
 rel:∀{vs:List V}{us:List Value}{zs:List V}{ws:List Value},aN vs us->aN zs ws->aN (gV vs zs) (g us ws)
variable {g:List Value->List Value->List Value}{gV:List V->List V->List V}
end
structure bQ(N P:List Str)(sc:Scope):Prop where
 kind:sc.kind=.function
 co:sc.isCoroutine=false
 gen:sc.isGenerator=false
 nd:N.Nodup
 pre:N.take P.length=P
 par:∀x∈P,sc.names.lookup x=some .local\/sc.names.lookup x=some .cell
 nofree:∀y∈sc.names,y.2≠.free
theorem Dm{kindOf:Str->Option NameKind}{x:Str}:∀{binds:List (Str×Value)}{m:Str->Option Value},(∀v,(x,v)∉binds)->bindL kindOf binds m x=m x
 | [],_,_=>rfl
 | (n,v)::r,m,h=>by
  unfold bindL;rw[Dm λw a=>h w (zq _ a)]
  split
  ·have:x≠n:=by rintro rfl;exact h v zg
   simp[this]
  ·rfl
theorem Dn{kindOf:Str->Option NameKind}{x:Str}:∀{binds:List (Str×Value)}{m:Str->Option Value},(∀v,(x,v)∉binds)->bindC kindOf binds m x=m x
 | [],_,_=>rfl
 | (n,v)::r,m,h=>by
  unfold bindC;rw[Dn λw a=>h w (zq _ a)]
  split
  ·rfl
  ·have:x≠n:=by rintro rfl;exact h v zg
   simp[this]
theorem Do{kindOf:Str->Option NameKind}{x:Str}{v:Value}:∀{P:List Str}{vs:List Value}{i:Nat}{m:Str->Option Value},P.Nodup->P[i]?=some x->vs[i]?=some v->kindOf x=some .local ->
  bindL kindOf (P.zip vs) m x=some v
 | [],_,_,_,_,h,_,_=>by simp at h
 | _::_,[],_,_,_,_,h,_=>by simp at h
 |p::P,w::vs,0,m,nd,h1,h2,hk=>by
  simp at h1 h2;subst h1;subst h2
  show bindL kindOf ((p,w)::P.zip vs) m p=_;unfold bindL;rw[Dm λv a=>(List.nodup_cons.mp nd).1 (List.of_mem_zip a).1,if_pos hk];simp
 |p::P,w::vs,i+1,m,nd,h1,h2,hk=>by
  show bindL kindOf ((p,w)::P.zip vs) m x=_;unfold bindL;exact Do (i:=i) (List.nodup_cons.mp nd).2 (by simpa using h1) (by simpa using h2) hk
theorem Dp{kindOf:Str->Option NameKind}{x:Str}{v:Value}:∀{P:List Str}{vs:List Value}{i:Nat}{m:Str->Option Value},P.Nodup->P[i]?=some x->vs[i]?=some v->kindOf x≠some .local ->
  bindC kindOf (P.zip vs) m x=some v
 | [],_,_,_,_,h,_,_=>by simp at h
 | _::_,[],_,_,_,_,h,_=>by simp at h
 |p::P,w::vs,0,m,nd,h1,h2,hk=>by
  simp at h1 h2;subst h1;subst h2
  show bindC kindOf ((p,w)::P.zip vs) m p=_;unfold bindC;rw[Dn λv a=>(List.nodup_cons.mp nd).1 (List.of_mem_zip a).1,if_neg hk];simp
 |p::P,w::vs,i+1,m,nd,h1,h2,hk=>by
  show bindC kindOf ((p,w)::P.zip vs) m x=_;unfold bindC;exact Dp (i:=i) (List.nodup_cons.mp nd).2 (by simpa using h1) (by simpa using h2) hk
def start(N:List Str)(vs:List V):St:=vs.map some++List.replicate (N.length - vs.length) none
def f9(CX:CXT)(P:Program)(w:World)(K:PySem.W.Frag)(mg:Str->Option Value)(base:Heap)(N:List Str)(qual:Str)(scope:Scope)(f:Addr)(cd:Value)(A:Around)(outer:List Env)(s:Shared)(H:Hp)(E:XK):Cx where
 prog:=P
 w:=w
 K:=K
 mg:=mg
 base:=base
 A:=A.deeper (envOfC qual scope s.heap.objs.size f cd)
 N:=N
 s₀:=s
 H₀:=H
 env:=envOfC qual scope s.heap.objs.size f cd
 outer:=outer
 stack:=envOfC qual scope s.heap.objs.size f cd::outer
 ex:=[]
 calm:=true
 fn:=λ_=>true
 pn:=[]
 xe:=λe s'=>wpAny (model P w) (A.deeper (envOfC qual scope s.heap.objs.size f cd)) (leaving (envOfC qual scope s.heap.objs.size f cd) e) (λ_ s''=>CX outer H s E e s'') (λe' s''=>CX outer H s E e' s'') s'
theorem Dq{a:Scope}{n:Nat}{x:Str}(h:a.names.lookup x=some .cell):∃c,(cellsFrom n a.names []).lookup x=some c:=by
 have q:=PySem.W.cellsFrom_some a.names n [] (.inl h);exact Option.isSome_iff_exists.mp q
theorem Qw{CX:CXT}{P:Program}{w:World}{K:PySem.W.Frag}{mg:Str->Option Value}{base:Heap}{N ps:List Str}{qual:Str}{scope:Scope}{f:Addr}{C:Value}{A:Around}{outer:List Env}{s F:Shared}{H:Hp}{E:XK}{us:List Value}{vs:List V}
  (S:bQ N ps scope) (hd:A.handled=none) (d:fK P w K mg base A outer s H) (O:vs.length=ps.length) (r:aN vs us)
  (x:InCallC s s.heap.objs.size (bindL (envOfC qual scope s.heap.objs.size f C).kindOf (ps.zip us) λ_=>none) (cellsFrom (s.heap.objs.size+1) scope.names []) (bindC (envOfC qual scope s.heap.objs.size f C).kindOf (ps.zip us) λ_=>none) F):
  Inv (f9 CX P w K mg base N qual scope f C A outer s H E) [] (start N vs) H F:=by
 have L:ps.length<=N.length:=by have:=congrArg List.length S.pre;rw[List.length_take] at this;omega
 obtain⟨h1,tk,rfl,I⟩:=x.done
 have j:∀b:Addr,b∉(f9 CX P w K mg base N qual scope f C A outer s H E).ex:=λb z=>absurd (show b∈([]:List Addr) from z) (by simp)
 refine⟨⟨d.mod,S.kind,rfl,rfl,zc _,λy z c h1 h2=>?_,λy g=>?_,λy c _ h=>?_,λ_=>hd,Around.frames_deeper d.frames,.inr ⟨rfl,rfl⟩,λb z=>absurd z (j b),d.bs,d.bsz,λb _ _=>j b,λb z=>absurd z (j b),d.funs,d.frf⟩,
  rfl,d.bare,Un.kept I,⟨_,x.toInCall.ns,λi y v h1 h2 h3=>?_⟩,λy c h=>⟨_,x.cell y c h⟩,d.hok.fresh (zc _),λy c h=>?_,λp l=>absurd (show p∈([]:List (Addr×Obj)) from l) (by simp),d.hok.kept I,?_⟩
 ·exact name_of_addr x.apart (PySem.mem_of_lookup h1) (PySem.mem_of_lookup h2)
 ·have g:scope.names.lookup y=some .cell\/scope.names.lookup y=some .free:=g
  rcases g with g | g
  ·exact Dq g
  ·exact absurd rfl (S.nofree _ (PySem.mem_of_lookup g))
 ·exact Nat.le_of_lt (x.above y c (PySem.mem_of_lookup h))
 ·have B:i<vs.length:=by
   unfold start at h2
   by_cases B:i<vs.length
   ·exact B
   ·rw[zH (by simpa using B)] at h2;rw[List.getElem?_replicate] at h2
    split at h2<;>cases h2
  have J:vs[i]?=some v:=by
   unfold start at h2;rw[zB (by simpa using B),zD] at h2
   cases e:vs[i]? with
   |none=>rw[e] at h2;cases h2
   |some a=>rw[e] at h2;cases h2;rfl
  obtain⟨u,G,rv⟩:=r.get J
  have l:ps[i]?=some y:=by
   rw[<-S.pre,List.getElem?_take_of_lt (by omega)];exact h1
  have m:ps.Nodup:=by rw[<-S.pre];exact S.nd.sublist (List.take_sublist _ _)
  refine⟨u,rv,?_⟩
  rcases S.par y (zJ l) with k | k
  ·exact .inl ⟨k,Do m l G k⟩
  ·obtain⟨c,e⟩:=Dq (n:=s.heap.objs.size+1) k;refine .inr ⟨.inl k,c,e,?_⟩;have q:=x.cell y c e;rw[Dp m l G (by show scope.names.lookup y≠_;rw[k];decide)] at q;exact q
 ·exact d.hok.fresh (Nat.le_of_lt (x.above y c (PySem.mem_of_lookup h)))
 ·unfold start;show _=N.length;rw[zn,zf,List.length_replicate];omega
theorem Dr{CX:CXT}{P:Program}{w:World}{K:PySem.W.Frag}{mg:Str->Option Value}{base:Heap}{k:Nat}{f:Addr}{name qual:Str}{params:Arguments}{body:List Stmt}{scope:Scope}{X kV F pm a ct oc:Value}{Y od:Option Addr}
  {O:Array (Option Value)}{N ps:List Str}{sp:Sp} (lk:K.lookup f=some ⟨oc,od,.func (PySem.W.fnOf name qual params body scope X kV F pm Y a ct),O⟩) (T:PySem.W.codeIn K a qual=true) (S:bQ N ps scope)
  (len:∀vs H Q E,sp vs H Q E->vs.length=ps.length)
  (j:∀(A:Around) (outer:List Env) (s:Shared) (H:Hp) (vs:List V) (Q:VK) (E:XK),bj k (A.deeper (envOfC qual scope s.heap.objs.size f a))->sp vs H Q E ->
   ∃t,PSs (f9 CX P w K mg base N qual scope f a A outer s H E) body t/\t {nx:=λ_ d=>Q .non d,rt:=Q} (start N vs) H):
  cj P w K mg base CX (k+1) f (PySem.W.fnOf name qual params body scope X kV F pm Y a ct) ps sp:=by
 refine⟨len,λA outer s H args us vs Q E L m hb r B=>?_⟩;have hl:=len _ _ _ _ B
 have Z:K.In s.heap:=m.mod.kin.keeps λb o e=>(m.bs b o e).1
 have R:s.heap.NoLimit:=m.mod.nolimit.keeps λb o e=>(m.bs b o e).1
 have g:∀y∈ps.zip us,scope.names.lookup y.1=some .local\/(scope.names.lookup y.1=some .cell/\((cellsFrom (s.heap.objs.size+1) scope.names []).lookup y.1).isSome=true):=λ⟨n,v⟩ hy=>by
  rcases S.par n (List.of_mem_zip hy).1 with q | q
  ·exact .inl q
  ·exact .inr ⟨q,PySem.W.cellsFrom_some _ _ _ (.inl q)⟩
 refine codeAny_call_function L.depth (Z _ _ lk) rfl S.co S.gen rfl (PySem.W.codeRec_of Z T) (hb _ _ _ _ ?_)
 refine wpAny_newFunctionEnv_cells S.kind g λenv he U x=>?_
 subst he;refine⟨R.keeps x.toInCall.keep,codeAny_func ?_⟩;obtain⟨t,ht,hq⟩:=j A outer s H vs Q E (L.deeper _) B;have I:Inv (f9 CX P w K mg base N qual scope f a A outer s H E) [] (start N vs) H U:=Qw S L.hd m hl r x
 refine zM (ht [] U (start N vs) H _ I hq) (λfl G l=>?_) λe G l=>l
 have C:∀{c:St}{d:Hp}{v:V}{u:Value},Inv (f9 CX P w K mg base N qual scope f a A outer s H E) [] c d G->RelV v u->Q v d->CE outer P w H s Q u G :=
  λ{c d v u} J rv q=>⟨v,d,J.os,J.bare,J.base,J.hok,rv,q⟩
 cases fl with
 |ret u =>
  obtain⟨v,c,d,J,rv,q⟩:=l;exact C J rv q
 |next =>
  obtain⟨c,d,J,q⟩:=l;exact C (v:=V.non) (u:=Value.none) J rfl q
 |brk =>
  obtain⟨_,_,_,q⟩:=l;exact False.elim q
 |cont =>
  obtain⟨_,_,_,q⟩:=l;exact False.elim q
section
variable {X:Cx}{x:Str}{p pos:Pos}{e:Expr}{es:List Expr}{t:TA}{id T:String}{r:List V->Hp->VK->Prop}
def tCB(r:List V->Hp->VK->Prop)(t:TA):TE:=λσ H Q=>t σ H λa c=>r a c Q
theorem Ds(l:iY X (.builtin id) r)(g:Gl X x)(f:X.mg x=none)(hv:bootBuiltins x=some (.builtin id))(m:PA X (e::es) t)(d:x≠"__name__":=by decide)(c:(x == ("__debug__":Str))=false:=by decide)
  (j:starEach (e::es) X.env=(false,eval e X.env)::starEach es X.env:=by rfl) (a:(backTo pos (starEach es X.env)).any (·.1)=false:=by rfl):PE X (.Call (.Name x p) (e::es) [] pos) (tCB r t):=by
 intro pins s σ H Q I h;refine wpAny_Call_Name_kw (oF I g f hv ?_ d c);exact PyProof.Rows.callWith_builtin1 (thn (m pos pins s σ H _ I h) λus s1 ⟨vs,H1,I1,r1,q1⟩=>l pins s1 σ H1 vs us Q I1 r1 q1) j a
theorem Dt(l:iY X (.type T) r)(g:Gl X x)(f:X.mg x=none)(hv:bootBuiltins x=some (.type T))(m:PA X (e::es) t)(d:x≠"__name__":=by decide)(c:(x == ("__debug__":Str))=false:=by decide)
  (j:starEach (e::es) X.env=(false,eval e X.env)::starEach es X.env:=by rfl) (a:(backTo pos (starEach es X.env)).any (·.1)=false:=by rfl):PE X (.Call (.Name x p) (e::es) [] pos) (tCB r t):=by
 intro pins s σ H Q I h;refine wpAny_Call_Name_kw (oF I g f hv ?_ d c);exact PyProof.Rows.callWith_type1 (thn (m pos pins s σ H _ I h) λus s1 ⟨vs,H1,I1,r1,q1⟩=>l pins s1 σ H1 vs us Q I1 r1 q1) j a
end
end L2
namespace HT
open PySem PyProof.Rows
section
open PySem.SeqAt
open PySem.AutoSeq1 (wpAny_loadPart')
open PySem.MeetsSeq PySem.MeetsSeq2 PySem.MeetsSeq3
end
section
variable {prog:Program}{w:World}{A:Around}{E:Value->Shared->Prop}{s:Shared}
theorem cat_tup{t b:Addr}{vs a:List Value}{Q:Value->Shared->Prop}(y:IsTup s.heap t vs.toArray)(B:IsTup s.heap b a.toArray)(hv:vs≠[])
  (h1:a=[]->Q (.ref t) s) (h2:a≠[]->Q (.ref s.heap.objs.size) {s with heap:=s.heap.push {cls:=.type "tuple",data:=.seq (vs++a).toArray}})
  (hsz:vs.length+a.length<=sizeLine):wpAny (model prog w) A (binaryOp .Add (.ref t) (.ref b)) Q E s:=by
 obtain⟨⟨cls,u,data,sl⟩,m,r,n,hd⟩:=id y;obtain⟨⟨x,j,data2,d⟩,c,g,q,f⟩:=id B;simp only at r hd g f;subst r hd g f
 have e:vs.toArray++a.toArray=(vs++a).toArray:=by simp
 by_cases l:a=[]
 ·exact concat_meets ⟨_,m,rfl⟩ ⟨_,c,rfl⟩ noFill_tuple_add seq_tuple_add PySem.F.slot_tuple_add PySem.F.entry_tuple_add (PySem.F.args_tuple_add_2 _ _)
   (tuple_addW1 t b vs.toArray a.toArray n q u j sl d (by simpa using hv) (by simp[l])) ⟨m,c,h1 l⟩
 ·refine concat_meets ⟨_,m,rfl⟩ ⟨_,c,rfl⟩ noFill_tuple_add seq_tuple_add PySem.F.slot_tuple_add PySem.F.entry_tuple_add (PySem.F.args_tuple_add_2 _ _)
   (tuple_addW2 t b vs.toArray a.toArray n q u j sl d (by simpa using hv) (by simpa using l) (by rw[zA,zA];exact hsz)) ⟨m,c,?_⟩
  rw[e];exact h2 l
def sIx(n d:Nat):Option Int->Nat
 |none=>d
 |some v=>if v<0 then(v+(n:Int)).toNat else min v.toNat n
theorem sIx_none(n d:Nat):sIx n d none=d:=rfl
theorem sIx_nat(n d k:Nat):sIx n d (some (k:Int))=min k n:=by
 show(if(k:Int)<0 then((k:Int)+(n:Int)).toNat else min (k:Int).toNat n)=min k n;rw[if_neg (by omega),Int.toNat_natCast]
theorem sIx_le(n d:Nat)(hd:d<=n)(o:Option Int):sIx n d o<=n:=by
 cases o with
 |none=>exact hd
 |some v =>
  show(if v<0 then(v+(n:Int)).toNat else min v.toNat n)<=n
  by_cases a:v<0
  ·rw[if_pos a];omega
  ·rw[if_neg a];exact Nat.min_le_right _ _
theorem Du(v:Int)(n d:Nat):(if v<0 then max (v+(n:Int)) 0 else min v (n:Int))=((sIx n d (some v):Nat):Int):=by
 show(if v<0 then max (v+(n:Int)) 0 else min v (n:Int))=(((if v<0 then(v+(n:Int)).toNat else min v.toNat n):Nat):Int)
 by_cases a:v<0
 ·simp only[if_pos a];omega
 ·simp only[if_neg a];omega
theorem Qx(lo a:Option Int)(n:Nat):Builtin.Slice.sliceAdjust lo a 1 (n:Int)=(((sIx n 0 lo:Nat):Int),((sIx n n a:Nat):Int)):=by
 have h1:¬((1:Int)<0):=by omega
 unfold Builtin.Slice.sliceAdjust;simp only[h1,if_false];refine Prod.ext ?_ ?_
 ·cases lo with
  |none=>rfl
  |some v=>exact Du v n 0
 ·cases a with
  |none=>rfl
  |some v=>exact Du v n n
theorem Qy(i j:Nat):Builtin.Slice.slicePlaces (i:Int) (j:Int) 1=j - i:=by
 unfold Builtin.Slice.slicePlaces
 have h1:(1:Int)>0:=by omega
 simp only[h1,if_true,Int.ediv_one]
 split<;>omega
theorem Dv{v:Value}{o:Option Int}{Q:Option Int->Shared->Prop}(p:IsPart v o)(h:Q o s):wpAny (model prog w) A (Builtin.Slice.slicePartIndex v) Q E s:=by
 cases p with
 |none=>exact slicePart_none h
 |int i t=>exact slicePart_int h
theorem sliceApplied_gen{sl:Addr}{vl f:Value}{lo a:Option Int}{n:Nat}{Q:Int×Int×Nat->Shared->Prop}(hs:s.heap.IsSliceOf sl vl f .none)(pl:IsPart vl lo)(g:IsPart f a)
  (h:Q (((sIx n 0 lo:Nat):Int),1,sIx n n a - sIx n 0 lo) s):wpAny (model prog w) A (Builtin.Slice.sliceApplied (.ref sl) (pure (n:Int))) Q E s:=by
 obtain⟨os,c,j,d⟩:=id hs;unfold Builtin.Slice.sliceApplied Builtin.Slice.sliceFields;refine za (za (wpAny_field c d (x:=vl) rfl (za (wpAny_field c d (x:=f) rfl (za (wpAny_field c d (x:=.none) rfl (zb ?_)))))));refine za (slicePart_none ?_);show wpAny _ _ (if((1:Int) == 0)=true then _ else _) _ _ s;rw[if_neg (by decide)];refine za (Dv pl (za (Dv g (za (zb ?_)))));show wpAny _ _ (match Builtin.Slice.sliceAdjust lo a 1 (n:Int) with | (lo,a)=>pure (lo,(1:Int),Builtin.Slice.slicePlaces lo a 1)) _ _ s;rw[Qx lo a n];show wpAny _ _ (pure (((sIx n 0 lo:Nat):Int),(1:Int),Builtin.Slice.slicePlaces ((sIx n 0 lo:Nat):Int) ((sIx n n a:Nat):Int) 1)) _ _ s
 rw[Qy];exact zb h
theorem Qz(xs:Array Value)(i k:Nat):((List.range k).filterMap λ(m:Nat)=>xs[((i:Int)+(m:Int) * 1).toNat]?).toArray=((xs.toList.drop i).take k).toArray:=by
 have e:(λ(m:Nat)=>xs[((i:Int)+(m:Int) * 1).toNat]?)=λm=>xs[i+m]?:=by
  funext m
  have:((i:Int)+(m:Int) * 1).toNat=i+m:=by omega
  rw[this]
 rw[e]
 have:=pick_run xs i k
 rw[List.filterMap_map] at this
 have a:((λx=>xs[x]?) ∘ λx=>i+x)=λm=>xs[i+m]?:=rfl
 rw[a] at this;rw[this]
theorem getItem_tuple_cut{t sl:Addr}{items:Array Value}{vl n:Value}{lo c:Option Int}{Q:Value->Shared->Prop}(d:IsTup s.heap t items)(hs:s.heap.IsSliceOf sl vl n .none)(pl:IsPart vl lo)(r:IsPart n c)
  (u:¬(sIx items.size 0 lo=0/\sIx items.size items.size c=items.size))
  (h:Q (.ref s.heap.objs.size) {s with heap:=s.heap.push {cls:=.type "tuple",data:=.seq ((items.toList.drop (sIx items.size 0 lo)).take (sIx items.size items.size c - sIx items.size 0 lo)).toArray}})
  (hsz:items.size<=sizeLine):wpAny (model prog w) A (getItem (.ref t) (.ref sl)) Q E s:=by
 have a:sizeOk (.seq ((items.toList.drop (sIx items.size 0 lo)).take (sIx items.size items.size c - sIx items.size 0 lo)).toArray):=by
  show((items.toList.drop (sIx items.size 0 lo)).take (sIx items.size items.size c - sIx items.size 0 lo)).toArray.size<=sizeLine;rw[zA,List.length_take,List.length_drop,Array.length_toList];omega
 have C:sIx items.size items.size c<=items.size:=sIx_le _ _ (zc _) c;obtain⟨os,f,j,x⟩:=id hs;have l:s.TypeIs (.ref sl) "slice":=⟨os,f,j⟩;unfold getItem
 try with_reducible refine zR ?_
 first | refine za (zb ?_) | skip
 refine za (wpAny_sequenceKey d.typeIs (by decide) ?_)
 refine za (wpAny_callSpecial?_slot (name:=Str.ofString "__getitem__") d.typeIs PyProof.Rows.slot_tuple_getitem
  (wpAny_call_entry PyProof.Rows.slot_tuple_getitem d.typeIs entry_tuple_getitem ?_ (args_tuple_getitem _ _)))
 show wpAny _ _ (Builtin.Tuple.tupleItemsOf (.ref t) >>= _) _ _ s;refine za (tupleItemsOf_ d ?_);refine za (wpAny_typeOf l ?_);rw[if_pos (by decide)];refine za (sliceApplied_gen hs pl r ?_)
 have g:¬((((sIx items.size 0 lo:Nat):Int) == 0&&(1:Int) == 1&&(sIx items.size items.size c - sIx items.size 0 lo) == items.size)=true):=by
  intro q;rw[zm,zm] at q;have B:((sIx items.size 0 lo:Nat):Int)=0:=eq_of_beq q.1.1;have y:sIx items.size items.size c - sIx items.size 0 lo=items.size:=eq_of_beq q.2;exact u ⟨by omega,by omega⟩
 show wpAny _ _ (if(((sIx items.size 0 lo:Nat):Int) == 0&&(1:Int) == 1&&(sIx items.size items.size c - sIx items.size 0 lo) == items.size)=true then _ else _) _ _ s;rw[if_neg g,Qz]
 first
  | exact za (m:=Builtin.Tuple.tupleExact _) (wpAny_newObj_type (zb ⟨_,rfl,zb h⟩) a)
  | exact za (m:=Builtin.Tuple.tupleExact _) (wpAny_newObj_type (za (zb (zb ⟨_,rfl,zb h⟩))) a)
  | exact za (za (m:=Builtin.Tuple.tupleExact _) (wpAny_newObj_type (zb (zb ⟨_,rfl,zb h⟩)) a))
  | exact za (za (m:=Builtin.Tuple.tupleExact _) (wpAny_newObj_type (zb ⟨_,rfl,zb h⟩) a))
end
end HT
namespace L2
open PySem PySem.Spec PyProof.Rows
abbrev TO:=St->Hp->(Option Int->Hp->Prop)->Prop
def PO(X:Cx)(e:Option Expr)(t:TO):Prop :=
 ∀(pins:List (Addr×Obj)) (s:Shared) (σ:St) (H:Hp) (Q:Option Int->Hp->Prop),Inv X pins σ H s->t σ H Q ->
  wpAny (model X.prog X.w) X.A (evalPart e X.env) (λu c=>∃o a,Inv X pins σ a c/\IsPart u o/\Q o a) X.xe s
def QB:TO:=λ_ H Q=>Q none H
def QC(t:TE):TO:=λσ H Q=>t σ H λx a=>∃i,x=.int i/\Q (some i) a
section
variable {X:Cx}{e:Expr}{te:TE}{lo hi:Option Expr}{tl th:TO}{pos p2:Pos}
theorem QD:PO X none QB:=by
 intro pins s σ H Q I h;rw[evalPart_none];exact zb ⟨none,H,I,.none,h⟩
theorem QF(h:PE X e te):PO X (some e) (QC te):=by
 intro pins s σ H Q I a;rw[evalPart_some]
 refine thn (h pins s σ H _ I a) λu s1 ⟨x,H1,I1,r1,q1⟩=>?_
 obtain⟨i,rfl,q⟩:=q1;obtain⟨t,rfl⟩:=r1;exact⟨some i,H1,I1,.int i t,q⟩
def SlR(X:Cx)(r:V->Option Int->Option Int->Hp->VK->Prop):Prop :=
 ∀(pins:List (Addr×Obj)) (s:Shared) (σ:St) (H:Hp) (x:V) (v vl a:Value) (lo hi:Option Int) (sl:Addr) (Q:VK),Inv X pins σ H s->RelV x v->s.heap.IsSliceOf sl vl a .none->IsPart vl lo->IsPart a hi->r x lo hi H Q ->
  ∃T c,typeLookup (.type T) "__getitem__" = pure (some (.builtin c))/\s.TypeIs v T/\wpAny (model X.prog X.w) X.A (getItem v (.ref sl)) (EP X pins σ Q) X.xe s
def tSl(r:V->Option Int->Option Int->Hp->VK->Prop)(te:TE)(tl th:TO):TE:=λσ H Q=>te σ H λx d=>tl σ d λl c=>th σ c λu a=>r x l u a Q
theorem QG{r:V->Option Int->Option Int->Hp->VK->Prop}(d:SlR X r)(j:PE X e te)(f:PO X lo tl)(a:PO X hi th):PE X (.Subscript e (.Slice lo hi none p2) pos) (tSl r te tl th):=by
 intro pins s σ H Q I h;refine Subscript_ (thn (j pins s σ H _ I h) λv s1 ⟨x,H1,I1,r1,q1⟩=>?_);refine wpAny_Slice (thn (f pins s1 σ H1 _ I1 q1) λvl s2 ⟨l,H2,I2,pl,q2⟩=>thn (a pins s2 σ H2 _ I2 q2) λvu s3 ⟨u,H3,I3,pu,q3⟩=>?_);rw[evalPart_none];refine zb ?_
 have n:Inv X pins σ H3 {s3 with heap:=s3.heap.push {cls:=.type "slice",data:=.fields #[vl,vu,.none]}}:=I3.kept (t':=s3.toks) λb ob q=>zl _ q
 obtain⟨T,y,m,c,g⟩:=d pins {s3 with heap:=s3.heap.push {cls:=.type "slice",data:=.fields #[vl,vu,.none]}} σ H3 x v vl vu l u s3.heap.objs.size Q n r1 (Heap.IsSliceOf.new ..) pl pu q3;show wpAny (model X.prog X.w) X.A (subscriptTail e (.Slice lo hi none p2) v (.ref s3.heap.objs.size)) (EP X pins σ Q) X.xe {s3 with heap:=s3.heap.push {cls:=.type "slice",data:=.fields #[vl,vu,.none]}};exact tail_any (ops:=[.ref s3.heap.objs.size,v]) c m g (by with_unfolding_all rfl)
def iZ(xs:List V)(lo hi:Option Int):List V:=(xs.drop (HT.sIx xs.length 0 lo)).take (HT.sIx xs.length xs.length hi - HT.sIx xs.length 0 lo)
theorem Dw(xs:List V)(lo hi:Option Int):(iZ xs lo hi).length<=xs.length:=by
 unfold iZ;rw[List.length_take,List.length_drop];omega
def QH(K:PySem.W.Frag):V->Option Int->Option Int->Hp->VK->Prop:=λx lo hi H Q=>∃a c,x=.ref a/\SqT K H a c /\
 ¬(HT.sIx c.length 0 lo=0/\HT.sIx c.length c.length hi=c.length)/\∀p,H p=none->Q (.ref p) (upd H p (.tup (iZ c lo hi)))
theorem QJ:SlR X (QH X.K):=by
 intro pins s σ H x v vl B lo hi sl Q I j y m l h;obtain⟨a,c,rfl,n,u,q⟩:=h;cases j;obtain⟨d,r,g,f⟩:=I.tuple n
 have hlen:d.toArray.size=c.length:=by rw[zA];exact r.length.symm
 refine⟨"tuple",_,PyProof.Rows.slot_tuple_getitem.lookup,g.typeIs,?_⟩;refine HT.getItem_tuple_cut g y m l (by rw[hlen];exact u) ?_ (by rw[hlen];exact f);rw[hlen];refine⟨.ref s.heap.objs.size,_,I.laid (t':=s.toks) (o:=.tup (iZ c lo hi)) (λb ob q=>zl _ q) (zc _) ?_,rfl,q _ (I.hok.fresh (zc _))⟩;exact⟨zG (Dw c lo hi) f,_,(r.drop (HT.sIx c.length 0 lo)).take (HT.sIx c.length c.length hi - HT.sIx c.length 0 lo),IsTup.new _ _⟩
def QK(K:PySem.W.Frag):R2:=λx y H Q=>∃a b d c,x=.ref a/\y=.ref b/\SqT K H a d/\SqT K H b c/\d≠[]/\d.length+c.length<=sizeLine /\
 (c=[]->Q (.ref a) H)/\(c≠[]->∀p,H p=none->Q (.ref p) (upd H p (.tup (d++c))))
theorem aN.nil_iff{xs:List V}{us:List Value}(r:aN xs us):us=[]↔xs=[]:=by
 cases r with
 |nil=>simp
 |cons _ _=>simp
theorem QL:OpR X (binaryOp .Add) (QK X.K):=by
 intro pins s σ H x y v u Q I n m h;obtain⟨a,b,l,j,rfl,rfl,G,F,E,f,B,r⟩:=h;cases n;cases m;obtain⟨J,d,C,_⟩:=I.tuple G;obtain⟨g,c,p2,_⟩:=I.tuple F;refine HT.cat_tup C p2 (λz=>E (d.nil_iff.mp z)) (λz=>⟨.ref a,H,I,rfl,B (c.nil_iff.mp z)⟩) (λz=>?_) (by rw[<-d.length,<-c.length];exact f);refine⟨.ref s.heap.objs.size,_,I.laid (t':=s.toks) (o:=.tup (l++j)) (λb ob q=>zl _ q) (zc _) ?_,rfl,r (λw=>z (c.nil_iff.mpr w)) _ (I.hok.fresh (zc _))⟩;exact⟨by rw[zn];exact f,_,d.append c,IsTup.new _ _⟩
end
def ixN(n:Nat)(i:Int):Option Nat:=if 0<=i then(if i<n then some i.toNat else none) else if -(n:Int)<=i then some (i+n).toNat else none
def atI{α:Type}(xs:List α)(i:Int):Option α:=(ixN xs.length i).bind λj=>xs[j]?
theorem QM{n:Nat}{i:Int}{j:Nat}(h:ixN n i=some j):seqIndex? i n=some j/\j<n/\-(n:Int)<=i/\i<n:=by
 unfold ixN at h
 by_cases h0:0<=i
 ·rw[if_pos h0] at h
  by_cases h1:i<n
  ·rw[if_pos h1] at h;have e:i.toNat=j:=zz h;exact⟨by rw[seqIndex_of h0 h1,e],by omega,by omega,h1⟩
  ·rw[if_neg h1] at h;cases h
 ·rw[if_neg h0] at h
  by_cases h1:-(n:Int)<=i
  ·rw[if_pos h1] at h;have e:(i+n).toNat=j:=zz h;exact⟨by rw[seqIndex_neg (by omega) h1,e],by omega,h1,by omega⟩
  ·rw[if_neg h1] at h;cases h
theorem vp{α:Type}{xs:List α}{i:Int}{v:α}(h:atI xs i=some v):∃j,seqIndex? i xs.length=some j/\xs[j]?=some v/\j<xs.length/\-(xs.length:Int)<=i/\i<xs.length:=by
 unfold atI at h
 cases e:ixN xs.length i with
 |none=>rw[e] at h;cases h
 |some j =>
  rw[e] at h;obtain⟨h1,h2,h3,h4⟩:=QM e;exact⟨j,h1,h,h2,h3,h4⟩
def vq(b:Expr):Prop:=∀o i,subscripted b false o i=operate [o,i] (getItem o i)
def IxR(X:Cx)(r:R2):Prop :=
 ∀(value slice:Expr) (pins:List (Addr×Obj)) (s:Shared) (σ:St) (H:Hp) (x y:V) (v u:Value) (Q:VK),Inv X pins σ H s->RelV x v->RelV y u->r x y H Q ->
  subscripted slice false v u=operate [v,u] (getItem v u)->wpAny (model X.prog X.w) X.A (subscriptTail value slice v u) (EP X pins σ Q) X.xe s
def MtR(X:Cx)(d:String)(r:V->List V->Hp->VK->Prop):Prop :=
 ∀(pins:List (Addr×Obj)) (s:Shared) (σ:St) (H:Hp) (x:V) (a:List V) (v:Value) (c:List Value) (Q:VK),Inv X pins σ H s->RelV x v->aN a c->r x a H Q ->
  wpAny (model X.prog X.w) X.A (call (.builtin d) (v::c)) (EP X pins σ Q) X.xe s
section
variable {X:Cx}{a b:Expr}{ta tb:TE}{pos:Pos}
theorem QQ{r:R2}(g:IxR X r)(l:PE X a ta)(j:PE X b tb)(hs:vq b):PE X (.Subscript a b pos) (tOp r ta tb):=by
 intro pins s σ H Q I h;exact Subscript_ (uZ l j I h λv u c x y n m f d q=>g a b pins c σ n x y v u Q m f d q (hs _ _))
def QR(K:PySem.W.Frag):R2:=λx y H Q=>∃p c i v,x=.ref p/\y=.int i/\SqL K H p c/\atI c i=some v/\Q v H
def QS(K:PySem.W.Frag):R2:=λx y H Q=>∃p c i v,x=.ref p/\y=.int i/\SqT K H p c/\atI c i=some v/\Q v H
def QT:R2:=λx y H Q=>∃z i c,x=.str z/\y=.int i/\z.length<=sizeLine/\atI z.cps.toList i=some c/\Q (.str ⟨#[c]⟩) H
theorem QV:IxR X (QR X.K):=by
 intro value slice pins s σ H x y v u Q I E C h m;obtain⟨p,O,i,z,rfl,rfl,F,J,q⟩:=h;cases E;obtain⟨t,rfl⟩:=C;obtain⟨l,r,d,P⟩:=I.list F;obtain⟨j,h1,h2,h3,h4,L⟩:=vp J;obtain⟨w,n,g⟩:=r.get h2;have G:=r.length;have R:=oJ;have c:EP X pins σ Q w s:=⟨z,H,I,g,q⟩
 by_cases h0:0<=i
 ·have f:i.toNat=j:=by
   rw[seqIndex_of h0 L] at h1;exact zz h1
  exact item_listR d.isList h0 (by omega) (by rw[f];simpa using n) c m
 ·have f:(i+(l.toArray.size:Int)).toNat=j:=by
   rw[seqIndex_neg (by omega) h4] at h1;rw[zA,<-G];exact zz h1
  exact subscriptTail_builtinR (x:=w) d.isList.typeIs slot_list_getitem.lookup
   (wpAny_getItem_list_neg (Q:=λr B=>r=w/\EP X pins σ Q r B) d.isList (by omega) (by rw[zA]<;>omega) (by omega) (by rw[f];simpa using n) ⟨rfl,c⟩) m
theorem QW:IxR X (QS X.K):=by
 intro value slice pins s σ H x y v u Q I m l h n;obtain⟨p,J,i,z,rfl,rfl,B,E,q⟩:=h;cases m;obtain⟨t,rfl⟩:=l;obtain⟨G,r,f,L⟩:=I.tuple B;obtain⟨j,h1,h2,h3,h4,P⟩:=vp E;obtain⟨w,F,c⟩:=r.get h2;have C:=r.length;have O:=oJ;have d:EP X pins σ Q w s:=⟨z,H,I,c,q⟩;exact subscriptTail_builtinR (x:=w) f.typeIs slot_tuple_getitem.lookup
  (getItem_tuple (j:=j) (Q:=λr g=>r=w/\EP X pins σ Q r g) f (by omega) (by omega) (by rw[zA,<-C];exact h1) (by simpa using F) ⟨rfl,d⟩) n
theorem kZ:IxR X QT:=by
 intro value slice pins s σ H x y v u Q I f d h g;obtain⟨z,i,c,rfl,rfl,E,m,q⟩:=h;obtain⟨t,rfl⟩:=f;obtain⟨C,rfl⟩:=d;obtain⟨j,h1,h2,h3,h4,n⟩:=vp m
 have l:z.cps.toList.length=z.length:=by simp[Str.length]
 rw[l] at h1 h4 n;have F:=oJ
 exact tail_any (typeIs_str s z t) slot_str_getitem.lookup (getItem_str (c:=c) (by
  have B:decide (i < -(2 ^ 63:Int))=false:=ze (by omega);have r:decide (i>=2 ^ 63)=false:=ze (by omega)
  rw[B,r,Bool.or_false]) (by rw[h1];simpa using h2) ⟨.str ⟨#[c]⟩,H,I.tok _,⟨_,rfl⟩,q⟩) g
theorem Inv.lst{pins:List (Addr×Obj)}{σ:St}{H:Hp}{s:Shared}{p:Addr}{xs:List V}(I:Inv X pins σ H s)(h:H p=some (.lst xs)):
  ∃(its:List Value) (n:Nat),aN xs its/\s.heap.get? p=some {cls:=.type "list",data:=.seq its.toArray n}/\xs.length<=sizeLine:=by
 obtain⟨z,its,n,r,e⟩:=I.hok p _ h;exact⟨its,n,r,e,z⟩
theorem Dy(lo c:Option Int)(n:Nat):(sliceBounds lo c none n).1=((HT.sIx n 0 lo:Nat):Int)/\(sliceBounds lo c none n).2.1=((HT.sIx n n c:Nat):Int)/\(sliceBounds lo c none n).2.2=1:=by
 refine⟨?_,?_,rfl⟩
 ·cases lo with
  |none=>simp[sliceBounds,HT.sIx]
  |some i =>
   simp only[sliceBounds,HT.sIx,Option.getD_none,show(1:Int)>0 by decide,if_true]
   by_cases h:i<0
   ·simp only[h,if_true]<;>omega
   ·simp only[h,if_false]<;>omega
 ·cases c with
  |none=>simp[sliceBounds,HT.sIx]
  |some i =>
   simp only[sliceBounds,HT.sIx,Option.getD_none,show(1:Int)>0 by decide,if_true]
   by_cases h:i<0
   ·simp only[h,if_true]<;>omega
   ·simp only[h,if_false]<;>omega
theorem QX(its:List Value)(lo c:Option Int):slicePick its.toArray lo c none=((its.drop (HT.sIx its.length 0 lo)).take (HT.sIx its.length its.length c - HT.sIx its.length 0 lo)).toArray:=by
 obtain⟨h1,h2,h3⟩:=Dy lo c its.toArray.size;unfold slicePick;rw[h1,h2,h3]
 simp only[sliceRange_one,pick_run,zA]<;>rfl
def QZ(K:PySem.W.Frag):V->Option Int->Option Int->Hp->VK->Prop:=λx lo d H Q=>∃a c,x=.ref a/\SqL K H a c/\∀p,H p=none->Q (.ref p) (upd H p (.lst (iZ c lo d)))
theorem Q0:SlR X (QZ X.K):=by
 intro pins s σ H x v vl B lo d sl Q I g u l j h;obtain⟨a,c,rfl,n,q⟩:=h;cases g;obtain⟨y,r,f,m⟩:=I.list n;have hlen:=r.length;refine⟨"list",_,slot_list_getitem.lookup,f.isList.typeIs,?_⟩;refine wpAny_getItem_list_slice f.isList u l j .none (by simp) ?_ (by rw[zA]<;>omega);rw[QX,<-hlen];refine⟨.ref s.heap.objs.size,_,I.laid (t':=s.toks) (o:=.lst (iZ c lo d)) (λb ob q=>zl _ q) (zc _) ?_,rfl,q _ (I.hok.fresh (zc _))⟩;exact⟨zG (Dw c lo d) m,_,0,(r.drop (HT.sIx c.length 0 lo)).take (HT.sIx c.length c.length d - HT.sIx c.length 0 lo),zx _ rfl⟩
def iy:V->Bool
 | .non=>true
 | .bl _=>true
 | .int _=>true
 | .str _=>true
 | _=>false
def eqV:V->V->Bool
 | .non,.non=>true
 | .bl a,.bl b=>a == b
 | .bl a,.int b=>(if a then 1 else 0) == b
 | .int a,.bl b=>a == (if b then 1 else 0)
 | .int a,.int b=>a == b
 | .str a,.str b=>a == b
 | _,_=>false
theorem Q3{A:Around}{s:Shared}{y x:V}{u v:Value}(f:RelV y u)(c:RelV x v)(j:iy y=true)(g:iy x=true):SeqAt.EqAt A s u v (eqV y x):=by
 cases y with
 |non =>
  cases f
  cases x with
  |non=>cases c;exact SeqAt.EqAt.same _
  |bl b=>cases c;exact SeqAt.EqAt.none_bool b
  |int b=>obtain⟨t,rfl⟩:=c;exact SeqAt.EqAt.none_int b t
  |str b=>obtain⟨t,rfl⟩:=c;exact SeqAt.EqAt.none_str b t
  | _=>exact absurd (show false=true from g) zh
 |bl a =>
  cases f
  cases x with
  |non=>cases c;exact SeqAt.EqAt.bool_none a
  |bl b=>cases c;exact SeqAt.EqAt.bool_bool a b
  |int b=>obtain⟨t,rfl⟩:=c;exact SeqAt.EqAt.bool_int a b t
  |str b=>obtain⟨t,rfl⟩:=c;exact SeqAt.EqAt.bool_str a b t
  | _=>exact absurd (show false=true from g) zh
 |int a =>
  obtain⟨d,rfl⟩:=f
  cases x with
  |non=>cases c;exact SeqAt.EqAt.int_none a d
  |bl b=>cases c;exact SeqAt.EqAt.int_bool a d b
  |int b=>obtain⟨t,rfl⟩:=c;exact SeqAt.EqAt.int_int a d b t
  |str b=>obtain⟨t,rfl⟩:=c;exact SeqAt.EqAt.int_str a d b t
  | _=>exact absurd (show false=true from g) zh
 |str a =>
  obtain⟨d,rfl⟩:=f
  cases x with
  |non=>cases c;exact SeqAt.EqAt.str_none a d
  |bl b=>cases c;exact SeqAt.EqAt.str_bool a d b
  |int b=>obtain⟨t,rfl⟩:=c;exact SeqAt.EqAt.str_int a d b t
  |str b=>obtain⟨t,rfl⟩:=c;exact SeqAt.EqAt.str_str a d b t
  | _=>exact absurd (show false=true from g) zh
 | _=>exact absurd (show false=true from j) zh
def eqU(x:V)(u:Value):Bool:=match u with
 | .none=>eqV .non x
 | .bool b=>eqV (.bl b) x
 | .int i _=>eqV (.int i) x
 | .str z _=>eqV (.str z) x
 | _=>false
theorem Dz{x y:V}{u:Value}(r:RelV y u)(f:iy y=true):eqU x u=eqV y x:=by
 cases y with
 |non=>cases r;rfl
 |bl b=>cases r;rfl
 |int i=>obtain⟨t,rfl⟩:=r;rfl
 |str z=>obtain⟨t,rfl⟩:=r;rfl
 | _=>exact absurd (show false=true from f) zh
theorem vz{x:V}:∀{xs:List V}{us:List Value},aN xs us->xs.all iy=true->us.any (eqU x)=xs.any λy=>eqV y x
 | _,_,.nil,_=>rfl
 |y::xs,u::us,.cons r t,f=>by
  rw[List.all_cons,zm] at f;rw[List.any_cons,List.any_cons,Dz r f.1,vz t f.2]
theorem vC{A:Around}{s:Shared}{x:V}{v:Value}(d:RelV x v)(g:iy x=true):∀{xs:List V}{us:List Value},aN xs us->xs.all iy=true->∀u∈us,SeqAt.EqAt A s u v (eqU x u)
 | _,_,.nil,_=>λu c=>by cases c
 |y::xs,u::us,.cons r t,f=>λj c=>by
  rw[List.all_cons,zm] at f
  rcases zp.mp c with rfl | c
  ·rw[Dz r f.1];exact Q3 r d f.1 g
  ·exact vC d g t f.2 j c
def inV(x:V)(xs:List V):Bool:=xs.any λy=>eqV y x
def rIn(K:PySem.W.Frag)(d:Bool):R2:=λx y H Q=>∃p c,y=.ref p/\(SqL K H p c\/SqT K H p c)/\iy x=true/\c.all iy=true/\Q (.bl (if d then !inV x c else inV x c)) H
theorem Q4:OpR X (compareOp .In) (rIn X.K false):=by
 intro pins s σ H x y v u Q I j m h;obtain⟨p,B,rfl,d,l,fs,q⟩:=h;cases m
 rcases d with d | d
 ·obtain⟨c,r,f,n⟩:=I.list d;refine SeqAt.in_listAt (eqU x) f.isList (λw g=>vC j l r fs w (by simpa using g)) ⟨.bl _,H,I,rfl,?_⟩;rw[show c.toArray.any (eqU x)=c.any (eqU x) by simp,vz r fs];exact q
 ·obtain⟨c,r,f,n⟩:=I.tuple d;refine SeqAt.in_tupleAt (eqU x) f (λw g=>vC j l r fs w (by simpa using g)) ⟨.bl _,H,I,rfl,?_⟩;rw[show c.toArray.any (eqU x)=c.any (eqU x) by simp,vz r fs];exact q
theorem DG:iY X (.type "list") (λxs H Q=>∃p ys,xs=[.ref p]/\(SqL X.K H p ys\/SqT X.K H p ys)/\∀l,H l=none->Q (.ref l) (upd H l (.lst ys))):=by
 intro pins s σ H xs G Q I r h;obtain⟨p,ys,rfl,m,q⟩:=h;obtain⟨u,rfl,F⟩:=vals1 r;cases F;have x:∀(c:List Value),aN ys c->ys.length<=sizeLine->∀(d:Heap) (g:Nat),(∀b E,s.heap.get? b=some E->d.get? b=some E) ->
   d.get? s.heap.objs.size=some {cls:=.type "list",dict:=none,data:=.seq c.toArray g,slots:=#[]}->EP X pins σ Q (.ref s.heap.objs.size) {s with heap:=d}:=λc f j d g kp e =>
  ⟨.ref s.heap.objs.size,_,I.laid (t':=s.toks) kp (zc _) (show bW X.prog X.w _ d _ (.lst ys) from⟨j,c,g,f,e⟩),rfl,q _ (I.hok.fresh (zc _))⟩
 rcases m with m | m
 ·obtain⟨c,f,y,j⟩:=I.list m;have hlen:=f.length;obtain⟨o,B,C,n,hd⟩:=y.isList;exact call_list_seq p (.inl rfl) B C hd (λd g kp e=>x c f j d g kp e) (by simp only[zA]<;>omega)
 ·obtain⟨c,f,y,j⟩:=I.tuple m;have hlen:=f.length;obtain⟨o,B,C,n,hd⟩:=y;exact call_list_seq p (.inr rfl) B C hd (λd g kp e=>x c f j d g kp e) (by simp only[zA]<;>omega)
def tyV(K:PySem.W.Frag)(T:String)(x:V)(H:Hp):Prop:=match x with
 | .str _=>T = "str"
 | .int _=>T = "int"
 | .ref p=>(T = "list"/\∃c,SqL K H p c)\/(T = "tuple"/\∃o,K.lookup p=some o/\o.cls=.type "tuple"/\o.dict=none) \/
   (T = "dict"/\((∃kvs,H p=some (.dK kvs))\/∃kvs,H p=some (.dT kvs)))\/(T = "set"/\∃S n,H p=some (.set S n))
 | _=>False
theorem Q5{pins:List (Addr×Obj)}{σ:St}{H:Hp}{s:Shared}{T:String}{x:V}{v:Value}(I:Inv X pins σ H s)(r:RelV x v)(ty:tyV X.K T x H):
  s.TypeIs v T/\∀a,v=.ref a->∃ob,s.heap.get? a=some ob/\ob.dict=none:=by
 cases x with
 |str z =>
  obtain⟨t,rfl⟩:=r;cases(show T = "str" from ty);exact⟨typeIs_str s z t,λ_ e=>nomatch e⟩
 |int i =>
  obtain⟨t,rfl⟩:=r;cases(show T = "int" from ty);exact⟨typeIs_int s i t,λ_ e=>nomatch e⟩
 |ref p =>
  cases r
  rcases ty with⟨rfl,q,j⟩ | ⟨rfl,o,d,l,hd⟩ | ⟨rfl,d⟩ | ⟨rfl,S,n,d⟩
  ·obtain⟨m,_,g,_⟩:=I.list j;refine⟨g.isList.typeIs,λa e=>?_⟩;cases e;obtain⟨o,n,e,c,hd,_⟩:=g;exact⟨o,e,hd⟩
  ·refine⟨⟨o,I.kIn p o d,l⟩,λa e=>?_⟩;cases e;exact⟨o,I.kIn _ o d,hd⟩
  ·have z:∃o,s.heap.get? p=some o/\o.ExactDict:=by
    rcases d with⟨kvs,d⟩ | ⟨kvs,d⟩
    ·obtain⟨_,_,_,_,o,_,_,e,ex,_⟩:=I.hok p _ d;exact⟨o,e,ex⟩
    ·obtain⟨_,_,_,_,o,_,_,e,ex,_⟩:=I.hok p _ d;exact⟨o,e,ex⟩
   obtain⟨o,e,ex⟩:=z;refine⟨⟨o,e,ex.1⟩,λa f=>?_⟩;cases f;exact⟨o,e,ex.2.1⟩
  ·obtain⟨o,_,_,_,e,ex,_⟩:=I.hok p _ d;refine⟨⟨o,e,ex.1⟩,λa f=>?_⟩;cases f;exact⟨o,e,ex.2.1⟩
 | _=>exact False.elim ty
def tBM(K:PySem.W.Frag)(T:String)(r:V->List V->Hp->VK->Prop)(to:TE)(t:TA):TE:=λσ H Q=>to σ H λx c=>tyV K T x c/\t σ c λd f=>r x d f Q
variable {o e:Expr}{es:List Expr}{to:TE}{t:TA}{name:Str}{apos cpos:Pos}{T id:String}{r:V->List V->Hp->VK->Prop}
theorem DN(m:PlainAttrs T)(slot:Slot T name id)(j:typeOf (.builtin id)=pure (.type "method_descriptor"))(u:MtR X id r)(q:PE X o to)(y:PA X (e::es) t)
  (f:attributeBase o name X.env (eval o X.env)=eval o X.env:=by rfl)
  (g:((backTo cpos (starEach (e::es) X.env)).all (λx=>!x.1)&&(backToKw cpos (keywordEach [] X.env)).all (λx=>x.1.isSome)
   && decide ((e::es).length+([]:List Keyword).length+(if([]:List Keyword).isEmpty then 0 else 1)<30))=true:=by rfl)
  (d:(apos.endLine == cpos.line)=true:=by rfl) (n:starEach (e::es) X.env=(false,eval e X.env)::starEach es X.env:=by rfl) (c:(backTo cpos (starEach es X.env)).any (·.1)=false:=by rfl):
  PE X (.Call (.Attribute o name apos) (e::es) [] cpos) (tBM X.K T r to t):=by
 intro pins s σ H Q I h;refine wpAny_Call_method_late f g d rfl (thn (q pins s σ H _ I h) λv s1 ⟨x,H1,I1,r1,ty,q1⟩=>?_);obtain⟨h1,h2⟩:=Q5 I1 r1 ty;refine⟨T,id,m,slot,j,h1,h2,?_⟩;have l:=y cpos pins s1 σ H1 _ I1 q1;rw[n] at l ⊢;refine Calls.callWith_builtin (by show(false || (backTo cpos (starEach es X.env)).any (·.1))=false;rw[c]<;>rfl) (Calls.evalArgs_plain ?_)
 exact thn l λus s2 ⟨vs,H2,I2,r2,q2⟩=>u pins s2 σ H2 x vs v us Q I2 r1 r2 q2
/- xs.append(e),list.index on a module's tuple .. are MtR facts of 06m -/
end
def MtM(X:Cx)(d:String)(r:V->List V->Hp->VK->Prop):Prop :=
 ∀(pins:List (Addr×Obj)) (s:Shared) (σ:St) (H:Hp) (x:V) (a:List V) (v:Value) (c:List Value) (Q:VK),Inv X pins σ H s->RelV x v->aN a c->r x a H Q ->
  wpAny (model X.prog X.w) X.A (call (.builtin d) (v::c)) (EP X pins σ Q) X.xe s
theorem aN.one:∀{x:V}{us:List Value},aN [x] us->∃u,us=[u]/\RelV x u
 | _,_,.cons r .nil=>⟨_,rfl,r⟩
theorem aN.two:∀{x y:V}{us:List Value},aN [x,y] us->∃u v,us=[u,v]/\RelV x u/\RelV y v
 | _,_,_,.cons r (.cons q .nil)=>⟨_,_,rfl,r,q⟩
theorem aN.zero:∀{us:List Value},aN [] us->us=[]
 | _,.nil=>rfl
theorem aN.eraseIdx:∀{xs:List V}{us:List Value} (i:Nat),aN xs us->aN (xs.eraseIdx i) (us.eraseIdx i)
 | _,_,_,.nil=>.nil
 | _,_,0,.cons _ t=>t
 | _,_,i+1,.cons r t=>.cons r (aN.eraseIdx i t)
theorem aN.rep{xs:List V}{us:List Value}(h:aN xs us):∀k:Nat,aN (List.replicate k xs).flatten (List.replicate k us).flatten
 | 0=>.nil
 |k+1=>by
  rw[List.replicate_succ,List.replicate_succ,List.flatten_cons,List.flatten_cons];exact aN.append h (aN.rep h k)
theorem foldl_rep(its:List Value):∀(k:Nat) (acc:List Value),
  List.foldl (λc a=>c++a) acc.toArray (List.replicate k its.toArray)=(acc++(List.replicate k its).flatten).toArray
 | 0,acc=>by simp
 |k+1,acc=>by
  have e:acc.toArray++its.toArray=(acc++its).toArray:=by simp
  have d:(acc++its)++(List.replicate k its).flatten=acc++(List.replicate (k+1) its).flatten:=by
   rw[List.replicate_succ,List.flatten_cons,zE]
  rw[<-d,<-foldl_rep its k (acc++its),<-e,List.replicate_succ,List.foldl_cons]
section
variable {X:Cx}{pins:List (Addr×Obj)}{σ:St}{H:Hp}{s:Shared}{l b:Addr}{xs ys zs:List V}
theorem Inv.lset{its its':List Value}{n:Nat}{f:Array Value->Array Value}{t':Nat}(I:Inv X pins σ H s)(g:H l=some (.lst xs))
  (e:s.heap.get? l=some {cls:=.type "list",data:=.seq its.toArray n}) (c:f its.toArray=its'.toArray) (hv:aN ys its') (hz:ys.length<=sizeLine):
  Inv X pins σ (upd H l (.lst ys)) {s with heap:=s.heap.update l (Obj.mapSeq f),toks:=t'}:=by
 have q:=PySem.IsL.update e f;rw[c] at q;refine I.write (x:=l) (e:=l) (by rw[g];exact trivial) (.inl rfl) (λj u d a=>(jk s.heap (Obj.mapSeq f) (Ne.symm d)).trans a) ⟨_,q⟩ ?_;exact⟨hz,its',_,hv,q⟩
theorem Inv.lnew{its:List Value}{t':Nat}(I:Inv X pins σ H s)(hv:aN ys its)(hz:ys.length<=sizeLine):
  Inv X pins σ (upd H s.heap.objs.size (.lst ys)) {s with heap:=s.heap.push {cls:=.type "list",data:=.seq its.toArray},toks:=t'}:=
 I.laid (λ_ _ q=>zl _ q) (zc _) ⟨hz,its,0,hv,zx _ rfl⟩
theorem Inv.fresh(I:Inv X pins σ H s):H s.heap.objs.size=none:=I.hok.fresh (zc _)
theorem Inv.lstM(I:Inv X pins σ H s)(a:H l=some (.lst xs)):xs.length<=sizeLine/\∃(its:List Value) (n:Nat),aN xs its/\xs.length=its.length/\s.heap.get? l=some {cls:=.type "list",data:=.seq its.toArray n}:=by
 obtain⟨z,its,n,r,e⟩:=I.hok l _ a;exact⟨z,its,n,r,r.length,e⟩
theorem vD{n:Nat}(h:n<=sizeLine):Builtin.List.listTooLong n=false:=by
 unfold Builtin.List.listTooLong;exact ze (by omega)
end
section
variable {X:Cx}
def Q6:V->List V->Hp->VK->Prop:=λx c H Q=>∃l a y,x=.ref l/\c=[y]/\H l=some (.lst a)/\a.length<sizeLine/\Q .non (upd H l (.lst (a++[y])))
theorem Q7:MtM X "list.append" Q6:=by
 intro pins s σ H x j v m Q I d rv h;obtain⟨l,g,y,rfl,rfl,c,B,q⟩:=h;cases d;obtain⟨u,rfl,f⟩:=rv.one;obtain⟨z,a,n,r,C,e⟩:=I.lstM c;refine call_meets F.slot_list_append ⟨_,e,rfl⟩ F.entry_list_append (F.args_list_append_2 _ _) (PySem.list_append l a.toArray n u (by rw[zA];omega)) ⟨e,?_⟩;refine⟨.non,_,I.lset (its':=a++[u]) c e (by simp) (r.append (.cons f .nil)) ?_,rfl,q⟩;rw[zn,jd];omega
theorem len_rep{α:Type}(xs:List α)(k:Nat):(List.replicate k xs).flatten.length=k * xs.length:=by
 induction k with
 |zero=>simp
 |succ k a=>rw[List.replicate_succ,List.flatten_cons,zn,a,Nat.succ_mul,Nat.add_comm]
end
section
variable {prog:Program}{w:World}{A:Around}{E:Value->Shared->Prop}{s:Shared}
theorem Q8{a c n:Nat}(d:a<=c)(f:c<=n):sliceBounds (some (a:Int)) (some (c:Int)) none n=((a:Int),(c:Int),1):=by
 simp only[sliceBounds,Option.getD_none]
 have h1:¬((a:Int)<0):=by omega
 have h2:¬((c:Int)<0):=by omega
 simp only[h1,h2,if_false,show(1:Int)>0 by decide,if_true];congr 1
 ·omega
 ·congr 1;omega
set_option maxRecDepth 100000 in
theorem QtV{l b sl:Addr}{items f:Array Value}{n J:Nat}{vl y:Value}{a c:Nat}{Q:Unit->Shared->Prop}
  (e:s.heap.get? l=some {cls:=.type "list",data:=.seq items n}) (H:s.heap.get? b=some {cls:=.type "list",data:=.seq f J}) (C:l≠b)
  (hs:s.heap.IsSliceOf sl vl y .none) (pl:IsPart vl (some (a:Int))) (I:IsPart y (some (c:Int))) (G:a<=c) (L:c<=items.size)
  (hsz:items.size+f.size<=sizeLine) (h:Q () {s with heap:=s.heap.update l (Obj.mapSeq λxs=>xs.extract 0 a++f++xs.extract c xs.size)}):
  wpAny (model prog w) A (setItem (.ref l) (.ref sl) (.ref b)) Q E s:=by
 have B:s.heap.IsList l items:=PySem.IsL.isList e;have O:s.heap.IsList b f:=PySem.IsL.isList H;obtain⟨os,g,F,j⟩:=id hs;have r:s.TypeIs (.ref sl) "slice":=⟨os,g,F⟩;have q:¬((rawPart none == rawInt 0)=true):=zh
 have d:Builtin.List.listSameRef (.ref l) (.ref b)=false:=by
  unfold Builtin.List.listSameRef;exact beq_eq_false_iff_ne.mpr C
 have u:(max (a:Int) (c:Int)).toNat=c:=by omega
 have hz':((λxs:Array Value=>xs.extract 0 a++f++xs.extract c xs.size) items).size<=sizeLine+1:=by
  simp only[Array.size_append,Array.size_extract];omega
 unfold setItem
 try with_reducible refine zR ?_
 first | refine za (zb ?_) | skip
 refine za (wpAny_sequenceKey B.typeIs (by decide) ?_)
 refine za (wpAny_callSpecial?_slot (name:=Str.ofString "__setitem__") B.typeIs slot_list_setitem
  (wpAny_call_entry slot_list_setitem B.typeIs entry_list_setitem ?_ (args_list_setitem _ _ _)))
 show wpAny _ _ (Builtin.List.listSubscript? (.ref sl) >>= _) _ _ s;refine za ?_;unfold Builtin.List.listSubscript?;refine za (wpAny_specialOf r slice_no_index ?_);simp only[Option.isNone_none,if_true];refine zb ?_;show wpAny _ _ (typeOf (.ref sl) >>= _) _ _ s;refine za (wpAny_typeOf r ?_)
 first
  | rw[if_neg (by decide)]
  | refine PySem.W.KFB.if_not (by decide) ?_
 rw[listSliceParts_eq];refine za (za (wpAny_field g j (x:=.none) rfl (za (wpAny_listPart .none ?_))));rw[if_neg q];refine za (wpAny_field g j (x:=vl) rfl (za (wpAny_listPart pl ?_)));refine za (wpAny_field g j (x:=y) rfl (za (wpAny_listPart I (zb ?_))))
 first
  | simp only[d,Bool.false_eq_true,if_false]
  | refine PySem.W.KFB.if_not d ?_
  | (dsimp only
     rw[if_neg (by rw[d];exact zh)])
 refine za (m:=Builtin.List.listAllItems (.ref b) "must assign iterable to extended slice") ?_;unfold Builtin.List.listAllItems;refine za (wpAny_typeOf O.typeIs ?_)
 first
  | refine PySem.W.KFB.if_so (by decide) ?_
  | rw[if_pos (by decide)]
  | simp only[beq_self_eq_true,Bool.true_or,if_true]
 unfold Builtin.List.listItems;refine za (wpAny_seqItems H rfl (zb ?_));refine za (za (wpAny_seqItems e rfl (zb ?_)));refine za (jl ((sliceIndices_raw (some (a:Int)) (some (c:Int)) none items.size (by simp)).trans (congrArg (pure:Int×Int×Int->Sem (Int×Int×Int)) (Q8 G L))) ?_);show wpAny _ _ (if((1:Int) == 1)=true then _ else _) _ _ s;rw[if_pos (by decide)];refine za (zW ?_)
 first
  | simp only[vD hsz,Bool.false_eq_true,if_false]
  | refine PySem.W.KFB.if_not (vD hsz) ?_
 first | refine za (zb ?_) | skip
 show wpAny _ _ (updateSeq l (λxs=>xs.extract 0 ((a:Int)).toNat++f++xs.extract (max (a:Int) (c:Int)).toNat xs.size) >>= _) _ _ s;rw[u,Int.toNat_natCast];refine za (jm (hz:=zG (Nat.le_add_right _ _) hsz) (_hz':=hz') e rfl ?_);refine za (wpAny_letGo ?_)
 first
  | exact za (zb (zb ⟨.none,rfl,zb h⟩))
  | exact zb ⟨.none,rfl,zb h⟩
end
section
variable {X:Cx}
end
end L2
namespace Att
open PySem PySem.W PySem.Calls PyProof.Rows
theorem Q9{P:Params}{h:Heap}:∀(ns:List Int) (vs:List Value),WellAll P h vs (ns.map WData.int)->IntsAre vs ns:=by
 intro ns
 induction ns with
 |nil =>
  intro vs w;rw[zQ] at w;cases w;exact .nil
 |cons n ns ih =>
  intro vs w;rw[zd] at w
  cases w with
  |cons a b =>
   cases a;exact .cons _ _ (ih _ b)
theorem Ra{l:OpenLaw}{n:Nat}(y:l.most=some n){P:Params}{h:Heap}{args:List WData}{vals:List Value}
  (c:l.row.toRowW.claim.pre args=true) (j:WellAll P h vals args):
  ∃a vs ns,vals=[Value.ref a]/\args=[WData.list (ns.map WData.int)]/\h.get? a=some {cls:=.type "list",data:=.seq vs.toArray}/\IntsAre vs ns/\ns.length<=n:=by
 have m:WShape.hasAll [] args [.list .int]=true:=(pre_splitW c).1;have u:l.pre.holds [] {args:=args}=true:=(pre_splitW c).2;obtain⟨d,r,rfl,h1,h2⟩:=hasAllW_cons m;obtain rfl:=hasAllW_nil h2;obtain⟨B,rfl,h3⟩:=hasW_list h1;obtain⟨ns,rfl⟩:=items_int h3
 have hlen:ns.length<=n:=by
  unfold OpenLaw.pre at u
  have h4:(WTm.not (.lt (.lit (.int (n:Int))) (.len (.arg 0)))).holds [] {args:=[.list (ns.map .int)]}=true:=by
   have h4:=(holds_andW u).1;rw[y] at h4;exact h4
  have g:=condW_of h4 (w_not (w_lt w_lit (w_len_list (w_arg rfl))));rw[zf] at g
  refine Nat.le_of_not_lt λq=>?_
  have q':(n:Int)<((ns.length:Nat):Int):=by omega
  first
   | (rw[zj q'] at g;exact absurd g (by decide))
   | (simp at g;omega)
 cases j with
 |cons w1 w2 =>
  cases w2
  cases w1 with
  |list x f=>exact⟨_,_,ns,rfl,rfl,x,Q9 ns _ f,hlen⟩
theorem Rb(l:OpenLaw)(args:List WData):l.row.toRowW.claim.post args (.bool true) args=true :=
 postW_of (r:=l.row.toRowW) (X:=(true == true))
  (show WShape.has [] (.bool true) .bool=true by first | rfl | decide | simp[WShape.has,WShape.arms,WShape.armsAll])
  (show(WTm.eq .res (.lit (.bool true))).value [] {args:=args,res:=some (.bool true),after:=args}=some (.bool (true == true)) from w_eq_bool (w_res rfl) w_lit) rfl
theorem attach_call{l:OpenLaw}{n:Nat}{q:Program}{loose:List Str}{I:(Str->Option Value)->Heap->Prop}{H:World->Heap->Prop}{d:DefRec}
  (P:l.most=some n) (C:d.params.defaults=[])
  (call:∀(w:World) (s₀ c:Shared) (mg mb:Str->Option Value) (fa:Addr) (o:Obj) (pm x g:Value) (a:Addr) (vs:List Value) (ns:List Int),
   Ground q loose [] I w s₀ mg mb c.heap->H w c.heap ->
   c.heap.get? fa=some o->o.data=.func (docDef d.name d.params d.body d.scope pm x g)->c.heap.CodeRec x d.name->mg d.name=some (.ref fa) ->
   c.heap.get? a=some {cls:=.type "list",data:=.seq vs.toArray}->IntsAre vs ns->ns.length<=n->c.gens = #[] ->
   codeAny (model l.prog w) callerA (.call (.ref fa) ⟨[.ref a],[]⟩) (λr u=>r=.ok (.ret (.bool true))/\OldK c.heap u.heap/\u.os=c.os/\AllBare u.gens) c):
  WalkO q loose I H l.row.toRowW d [] (λf vs=>PySem.call f vs):=by
 intro w s₀ c mg mb G Y fa o pm x g T kV O hd E F B R args vals X j J U y W;obtain rfl:T=.none:=Dflts.none F C;obtain rfl:kV=.none:=Dflts.noKw F;obtain⟨a,vs,ns,rfl,rfl,m,hints,hlen⟩:=Ra P j y;refine enter_call (codeAny_mono (call w s₀ c mg mb fa o pm x g a vs ns G Y O (fd_plain hd) E B m hints hlen R) λr u L=>?_);obtain⟨rfl,h2,h3,h4⟩:=L;exact⟨.inl ⟨.bool true,.bool true,[],rfl,λ_=>rfl,.bool true,Rb l _,λ_=>⟨List.Pairwise.nil,λ_ Q=>(nomatch Q)⟩⟩,h2,h3,h4⟩
section
variable {prog:Program}{w:World}{A:Around}{E:Value->Shared->Prop}{s:Shared}{K:Frag}
end
end Att
namespace L2
open PySem PySem.Spec PyProof.Rows
theorem vG:∀{vs:List Value}{ns:List Int},IntsAre vs ns->aN (ns.map V.int) vs
 | _,_,.nil=>.nil
 | _,_,.cons n t h=>.cons ⟨t,rfl⟩ (vG h)
def lq(H:Hp):Prop:=∀b,H b=none\/∃o a,H b=some (.frz o (.lst a))
theorem Rc{P:Program}{w:World}{K:PySem.W.Frag}{mg mb:Str->Option Value}{CX:CXT}{k:Nat}{fa a:Addr}{fd:FuncData}{x:Str}{sp:Sp}{c:Shared}{vs:List Value}{ns:List Int}
  (KX:K.In c.heap) (E:c.heap.Ns mainGlobals mg) (g:c.heap.Ns builtinsNs mb) (T:∀x:Str,x≠"__name__"->mb x=bootBuiltins x) (L:c.heap.NoLimit) (hg:c.gens = #[])
  (O:c.heap.get? a=some {cls:=.type "list",data:=.seq vs.toArray}) (Y:IntsAre vs ns) (X:ns.length<=sizeLine) (hr:bj k callerA)
  (F:∀base:Heap,K.In base->base.Ns mainGlobals mg->cj P w K mg base CX k fa fd [x] sp) (y:∀(s:Shared) (u:Value),BindsTo s fd ⟨[u],[]⟩ [(x,u)])
  (R:∀H:Hp,lq H->SqL K H a (ns.map V.int)->sp [.ref a] H (λv _=>v=.bl true) λ_ _ _=>False)
  (U:∀H e j,CX [] H c (λ_ _ _=>False) e j->False):
  codeAny (model P w) callerA (.call (.ref fa) ⟨[.ref a],[]⟩) (λr j=>r=.ok (.ret (.bool true))/\OldK c.heap j.heap/\j.os=c.os/\AllBare j.gens) c:=by
 have rv:=vG Y;have I:=Y.length;have core:∀H:Hp,lq H->SqL K H a (ns.map V.int)->HOk P w H c.heap->(∀b,H b≠none->b=a)->(H a≠none->K.lookup a=none) ->
   codeAny (model P w) callerA (.call (.ref fa) ⟨[.ref a],[]⟩) (λr j=>r=.ok (.ret (.bool true))/\OldK c.heap j.heap/\j.os=c.os/\AllBare j.gens) c:=by
  intro H Z hS hok hA hK
  have f:∀{b:Addr}{o:Obj},c.heap.get? b=some o->H b=none->(eZ c.heap H).get? b=some o:=λe n=>Ck e n
  have Q:∀{b:Addr}{o:Obj}{B:Array DictEntry}{C:Nat},c.heap.get? b=some o->o.data=.dict B C->H b=none:=λ{b o B C} e d=>by
   cases q:H b with
   |none=>rfl
   |some u =>
    have e':b=a:=hA b (by rw[q];simp);subst e';rw[O] at e;cases e;have d':Data.seq vs.toArray _=Data.dict B C:=d;cases d'
  have l:∀{b:Addr}{m:Str->Option Value},c.heap.Ns b m->(eZ c.heap H).Ns b m:=λ{b m} ⟨o,B,C,e,d,r⟩=>⟨o,B,C,f e (Q e d),d,r⟩
  have G:K.In (eZ c.heap H):=λb o e=>f (KX b o e) (by
   cases q:H b with
   |none=>rfl
   |some u =>
    have e':b=a:=hA b (by rw[q];simp);subst e'
    rw[hK (by rw[q];simp)] at e;cases e)
  have hM:Mod K mg (eZ c.heap H):=⟨G,l E,⟨mb,l g,T⟩,let ⟨mc,h1,h2⟩:=L;⟨mc,l h1,h2⟩⟩;have e0:fK P w K mg (eZ c.heap H) callerA [] c H:=⟨rfl,hM,λb o e=>Cm e,Nat.le_of_eq (Cj _ _),trivial,λb g=>absurd (show b∈([]:List Addr) from g) (by simp),hok,.of_eq hg⟩
  refine codeAny_mono ((F _ G (l E)).run callerA [] c H ⟨[.ref a],[]⟩ [.ref a] [.ref a] _ _ hr e0 (y c (.ref a)) (.cons rfl .nil) (R H Z hS)) λr j h=>?_
  cases r with
  |error e=>exact(U H e j h).elim
  |ok fl =>
   cases fl with
   |next=>exact False.elim h
   |brk=>exact False.elim h
   |cont=>exact False.elim h
   |ret u =>
    obtain⟨v,H',os,bare,un,J,r',q⟩:=h;have q':v=.bl true:=q;subst q';obtain rfl:u=Value.bool true:=r';refine⟨rfl,OldK.of_keep λb o e=>?_,os,bare⟩
    cases q:H b with
    |none=>exact un.keep b o e q (by intro z;exact absurd (show b∈([]:List Addr) from z) (by simp)) (by simp)
    |some u =>
     rcases Z b with z | ⟨ob,xs,z⟩
     ·rw[q] at z;cases z
     ·have z2:=un.frzs b ob _ z;obtain⟨e1,_⟩:=hok b _ z;obtain⟨e2,_⟩:=J b _ z2;rw[e] at e1;cases e1;exact e2
 cases hk:K.lookup a with
 |some o =>
  have e:=KX a o hk;rw[O] at e;cases e
  refine core (λ_=>none) (λ_=>.inl rfl) (.inr ⟨_,vs.toArray,_,hk,rfl,rfl,rfl,by rw[zA,I];exact X,by simpa using rv⟩) (λb u z=>by have z':(none:Option HO)=some u:=z;cases z') (λb z=>absurd rfl z) λz=>absurd rfl z
 |none =>
  refine core (λb=>if b=a then some (.frz {cls:=.type "list",data:=.seq vs.toArray} (.lst (ns.map V.int))) else none) (λb=>?_) (.inl (.inr ⟨{cls:=.type "list",data:=.seq vs.toArray},if_pos rfl⟩)) (λb u z=>?_) (λb z=>?_) λ_=>hk
  ·by_cases g:b=a
   ·exact .inr ⟨_,_,if_pos g⟩
   ·exact .inl (if_neg g)
  ·by_cases g:b=a
   ·have z':=(if_pos g).symm.trans z;cases z';subst g;exact⟨O,by rw[zf];exact X,vs,_,rv,O⟩
   ·have z':=(if_neg g).symm.trans z;cases z'
  ·by_cases g:b=a
   ·exact g
   ·exact absurd (if_neg g) z
abbrev KOf{K:PySem.W.Frag}{h:Heap}(_:K.In h):PySem.W.Frag:=K
theorem walk_of{l:PySem.W.OpenLaw}{n k:Nat}{q:Program}{loose:List Str}{XP:(Str->Option Value)->Heap->Prop}{YP:World->Heap->Prop}{d:DefRec}{K:Params->PySem.W.Frag}{CX:World->CXT}{sp:World->Sp}{x:Str}
  (hn:l.most=some n) (hn2:n<=sizeLine) (hdf:d.params.defaults=[]) (hr:bj k callerA)
  (hY:∀(w:World) (h:Heap),YP w h->(K w.params).In h)
  (F:∀(w:World) (mg:Str->Option Value) (fa:Addr) (h:Heap),(K w.params).In h->h.Ns mainGlobals mg->mg d.name=some (.ref fa) ->
   ∃fd:FuncData,(∀(s:Shared) (u:Value),BindsTo s fd ⟨[u],[]⟩ [(x,u)]) /\
    ∀base:Heap,(K w.params).In base->base.Ns mainGlobals mg->cj l.prog w (K w.params) mg base (CX w) k fa fd [x] (sp w))
  (hsp:∀(w:World) (H:Hp) (a:Addr) (ns:List Int),ns.length<=n->lq H->SqL (K w.params) H a (ns.map V.int)->sp w [.ref a] H (λv _=>v=.bl true) λ_ _ _=>False)
  (hCX:∀(w:World) (H:Hp) (s:Shared) (e:Value) (s':Shared),CX w [] H s (λ_ _ _=>False) e s'->False):
  PySem.W.WalkO q loose XP YP l.row.toRowW d [] (λf vs=>PySem.call f vs):=by
 refine Att.attach_call hn hdf λw s₀ s₁ mg mb fa o pm cd doc a vs ns G Y ho hd hcd hmg hobj hints hlen hg=>?_
 have KX:=hY w _ Y;obtain⟨fd,hb,hF⟩:=F w mg fa _ KX G.T.g hmg
 exact Rc KX G.T.g G.T.b G.T.builtins G.T.nolimit hg hobj hints (zG hlen hn2) hr hF hb (λH hO hS=>hsp w H a ns hlen hO hS) λH e s'=>hCX w H s₁ e s'
end L2
/- THE LAST THEOREM (shape;LID,My.* are yours):
   My.Adr: a structure of the addresses that your layer names (classes,functions);My.Txt K t: a structure (Prop) of the equations over K;
   My.txt_mk:{K}{implicit addresses ..} (e1:nsIn K mainGlobals "law" = some (some (.ref f))) (e2:K.lookup f=some ⟨oc,od,.func (fnOf "law" "law" params body scope dV kV doc pm an cdv ct),sl⟩) (e3:codeIn K cdv "law" = true) ..:∃t,My.Txt K t
set_option maxRecDepth 100000 in
set_option maxHeartbeats 0 in
theorem PySem.Challenge.cw_LID_holds : PySem.Challenge.rw_LID.Holds := by
 w_on;o_law;k_head;(case hw=>w_witness2)
 k_fill
 refine L2.walk_of (l:=PySem.Challenge.rw_LID) (n:=63) (k:=40) (x:="script") (CX:=λw=>..) (sp:=λ_=>My.sp_law) rfl (by decide) rfl ⟨rfl,by decide,by decide⟩ (λw h Y=>PySem.W.kIn_of Y) ?F ?S ?C
 case F =>
  intro w mg fa h KX G hmg
  have T:∃t,My.Txt (L2.KOf KX) t:=by
   dsimp only[L2.KOf]                          -- K must stand as «<heap const> w.params» for k_is
   refine' My.txt_mk ?e1 ?e2 ?e3 ..
   (case e1=>PySem.W.k_is)                    -- in the order: a name -> its address -> its object -> its parts
   (case e2=>PySem.W.k_is)
   ..
  obtain⟨t,T⟩:=T;have e0:=hmg.symm.trans (PySem.W.mg_of KX G T.law);cases e0                                       -- fa is the law's own address
  exact⟨_,λs u=>.of_eq rfl,λbase kb nb=>My.law_fn T kb nb⟩     -- if «.of_eq rfl» comes too early: refine'⟨_,?b,λbase kb nb=>My.law_fn T kb nb⟩;exact λs u=>.of_eq rfl
 case S=>exact λw H a ns hl hO hS=>..
 case C=>exact ..
(the tactic k_is has no namespace: write k_is) -/
namespace L2
open PySem PySem.Spec PyProof.Rows
def inClass(s:Stmt)(j:Nat):Stmt:=match s with
 | .ClassDef _ _ _ body _ _ _ _ _ _ _=>body.getD j (.Pass ⟨0,0,0,0⟩)
 | _=>.Pass ⟨0,0,0,0⟩
def fc(s:Stmt):Arguments:=match s with
 | .FunctionDef _ a _ _ _ _ _ _ _ _=>a
 | _=>{posonlyargs:=[],args:=[],vararg:=none,kwonlyargs:=[],kw_defaults:=[],kwarg:=none,defaults:=[]}
def di(s:Stmt):List Stmt:=match s with
 | .FunctionDef _ _ b _ _ _ _ _ _ _=>b
 | _=>[]
def aX(s:Stmt):Scope:=match s with
 | .FunctionDef _ _ _ _ _ _ sc _ _ _=>sc
 | _=>{kind:=.function,names:=[],isGenerator:=false,isCoroutine:=false}
abbrev CX0:CXT:=λ_ _ _ _ _ _=>False
abbrev E0:XK:=λ_ _ _=>False
theorem oM{X:Cx}:jN CX0 X E0:=λ_ _ _ _ _ _ _ h=>h.elim
structure Fun(K:PySem.W.Frag)(x qual:Str)(st:Stmt)(f:Addr)(fd:FuncData):Prop where
 ex:∃(oc:Value) (od:Option Addr) (kV doc pm:Value) (an:Option Addr) (cdv ct:Value) (osl:Array (Option Value)),
  fd=PySem.W.fnOf x qual (fc st) (di st) (aX st) .none kV doc pm an cdv ct/\K.lookup f=some ⟨oc,od,.func fd,osl⟩/\PySem.W.codeIn K cdv qual=true
 kp:PySem.W.keepIn K (.ref f)=true
section
variable {P:Program}{w:World}{K:PySem.W.Frag}{mg:Str->Option Value}{base:Heap}
theorem Fun.ok{x qual:Str}{st:Stmt}{f:Addr}{fd:FuncData}{N ps:List Str}{k:Nat}{sp:Sp}(F:Fun K x qual st f fd)(S:bQ N ps (aX st))(len:∀vs H Q E,sp vs H Q E->vs.length=ps.length)
  (c:∀(a:Value) (A:Around) (outer:List Env) (s:Shared) (H:Hp) (vs:List V) (Q:VK) (E:XK),bj k (A.deeper (envOfC qual (aX st) s.heap.objs.size f a))->sp vs H Q E ->
   ∃t,PSs (f9 CX0 P w K mg base N qual (aX st) f a A outer s H E).nox (di st) t/\t {nx:=λ_ l=>Q .non l,rt:=Q} (start N vs) H):cj P w K mg base CX0 (k+1) f fd ps sp:=by
 obtain⟨y,u,kV,n,r,B,a,ct,m,rfl,lk,g⟩:=F.ex
 refine Dr lk g S len λA outer s H vs Q E j d=>?_
 obtain⟨t,h,q⟩:=c a A outer s H vs Q E j d;exact⟨t,h.nox,q⟩
theorem Fun.binds{x qual:Str}{st:Stmt}{f:Addr}{fd:FuncData}{ps:List Str}(F:Fun K x qual st f fd)
  (h:∀(kV a pm:Value) (d:Option Addr) (c ct:Value) (us:List Value),us.length=ps.length->bindArgs (PySem.W.fnOf x qual (fc st) (di st) (aX st) .none kV a pm d c ct) ⟨us,[]⟩=pure (ps.zip us)):Binds K fd ps []:=by
 obtain⟨m,l,kV,a,pm,d,c,ct,g,rfl,lk,j⟩:=F.ex;exact .all (h kV a pm d c ct)
theorem vH{x qual:Str}{st:Stmt}{f:Addr}{m:Value}{od j:Option Addr}{g:Array (Option Value)}{kV d pm a ct:Value}(l:K.lookup f=some ⟨m,od,.func (PySem.W.fnOf x qual (fc st) (di st) (aX st) .none kV d pm j a ct),g⟩)
  (c:PySem.W.codeIn K a qual=true) (k:PySem.W.keepIn K (.ref f)=true):Fun K x qual st f (PySem.W.fnOf x qual (fc st) (di st) (aX st) .none kV d pm j a ct):=⟨⟨m,od,kV,d,pm,j,a,ct,g,rfl,l,c⟩,k⟩
end
theorem Rf{A:Around}{k:Nat}(a:bj k A):A.units+1<cLine:=Nat.lt_of_le_of_lt (Nat.add_le_add_left (by decide:1<=64) _) a.units
section
variable {X:Cx}
end
def Same(H a:Hp):Prop:=∀b o,H b=some o->a b=some o
theorem Same.refl(H:Hp):Same H H:=λ_ _ h=>h
theorem Same.trans{H f d:Hp}(a:Same H f)(b:Same f d):Same H d:=λc o h=>b c o (a c o h)
theorem Same.free{H a:Hp}(e:Same H a){l:Addr}(h:a l=Option.none):H l=Option.none:=by
 cases q:H l with
 |none=>rfl
 |some o =>
  rw[e l o q] at h;cases h
theorem Same.seq{K:PySem.W.Frag}{H c:Hp}{a:Addr}{xs:List V}(e:Same H c)(h:SqL K H a xs):SqL K c a xs:=by
 rcases h with(h | ⟨o,h⟩) | h
 ·exact .inl (.inl (e _ _ h))
 ·exact .inl (.inr ⟨o,e _ _ h⟩)
 ·exact .inr h
section
variable {κ:Type}[DecidableEq κ]
def cI(kvs:List (κ×V))(k:κ):Option V:=(kvs.find? λkv=>decide (kv.1=k)).map (·.2)
def putK(kvs:List (κ×V))(k:κ)(v:V):List (κ×V):=
 if(kvs.any λkv=>decide (kv.1=k))=true then kvs.map (λkv=>if kv.1=k then(kv.1,v) else kv) else kvs++[(k,v)]
def DP(kvs:List (κ×V))(k:κ):List (κ×V):=kvs.filter λkv=>decide (kv.1≠k)
theorem lr{p:κ×V}{r:List (κ×V)}{k:κ}(e:p.1=k):cI (p::r) k=some p.2:=by simp[cI,List.find?_cons,e]
theorem lu{p:κ×V}{r:List (κ×V)}{k:κ}(e:¬p.1=k):cI (p::r) k=cI r k:=by simp[cI,List.find?_cons,e]
theorem qQ(k:κ):∀kvs:List (κ×V),(kvs.any λkv=>decide (kv.1=k))=(cI kvs k).isSome
 | []=>rfl
 |p::r=>by
  rw[List.any_cons]
  by_cases e:p.1=k
  ·simp only[lr e,zj e,Bool.true_or,Option.isSome_some]
  ·rw[lu e,ze e,Bool.false_or];exact qQ k r
theorem DQ(kvs:List (κ×V))(k:κ)(v:V):(putK kvs k v).length<=kvs.length+1:=by
 unfold putK
 split
 ·rw[zf];omega
 ·rw[zn,zv,zT];omega
theorem Rg{kvs:List (κ×V)}{k:κ}(v:V)(h:cI kvs k=none):putK kvs k v=kvs++[(k,v)]:=by
 unfold putK;rw[qQ,h];exact if_neg (by decide)
theorem dD.isSome_eq{o:Option V}{u:Option Value}(r:dD o u):o.isSome=u.isSome:=by
 cases o with
 |none=>cases u with
  |none=>rfl
  |some _=>exact(show False from r).elim
 |some _=>cases u with
  |none=>exact(show False from r).elim
  |some _=>rfl
theorem dD.getD{o:Option V}{u:Option Value}{d:V}{d':Value}(r:dD o u)(rd:RelV d d'):RelV (o.getD d) (u.getD d'):=by
 cases o with
 |none=>cases u with
  |none=>exact rd
  |some _=>exact(show False from r).elim
 |some _=>cases u with
  |none=>exact(show False from r).elim
  |some _=>exact r
theorem KV.val{kvs:List (κ×V)}{vs:List (κ×Value)}(r:KV kvs vs)(k:κ):dD (cI kvs k) (valueAt vs k):=by
 unfold KV at r
 induction r with
 |nil=>exact True.intro
 | @cons p q ps qs h t ih =>
  obtain⟨h1,h2⟩:=h
  by_cases e:p.1=k
  ·have e':q.1=k:=h1.symm.trans e
   have b:valueAt (q::qs) k=some q.2:=by simp[valueAt,List.find?_cons,e']
   rw[lr e,b];exact h2
  ·have e':¬q.1=k:=λz=>e (h1.trans z)
   have b:valueAt (q::qs) k=valueAt qs k:=by simp[valueAt,List.find?_cons,e']
   rw[lu e,b];exact ih
theorem KV.any{kvs:List (κ×V)}{vs:List (κ×Value)}(r:KV kvs vs)(k:κ):(kvs.any λkv=>decide (kv.1=k))=vs.any λkv=>decide (kv.1=k):=by
 unfold KV at r
 induction r with
 |nil=>rfl
 |cons h t a=>rw[List.any_cons,List.any_cons,a,h.1]
theorem KV.repl{kvs:List (κ×V)}{vs:List (κ×Value)}(r:KV kvs vs)(k:κ){y:V}{u:Value}(a:RelV y u):
  KV (kvs.map λkv=>if kv.1=k then(kv.1,y) else kv) (vs.map λkv=>if kv.1=k then(kv.1,u) else kv):=by
 unfold KV at r ⊢
 induction r with
 |nil=>exact .nil
 | @cons p q ps qs h t ih =>
  rw[zd,zd];refine .cons ?_ ih;obtain⟨h1,h2⟩:=h
  by_cases e:p.1=k
  ·rw[if_pos e,if_pos (h1.symm.trans e)];exact⟨h1,a⟩
  ·rw[if_neg e,if_neg (λz=>e (h1.trans z))];exact⟨h1,h2⟩
theorem KV.put{kvs:List (κ×V)}{vs:List (κ×Value)}(r:KV kvs vs)(k:κ){y:V}{u:Value}(a:RelV y u):KV (putK kvs k y) (stored vs k u):=by
 unfold putK stored;rw[r.any k]
 by_cases e:(vs.any λkv=>decide (kv.1=k))=true
 ·rw[if_pos e,if_pos e];exact r.repl k a
 ·rw[if_neg e,if_neg e];exact Paired.snoc r ⟨rfl,a⟩
theorem KV.drop{kvs:List (κ×V)}{vs:List (κ×Value)}(r:KV kvs vs)(k:κ):KV (DP kvs k) (without vs k):=by
 unfold KV at r ⊢;unfold DP without
 induction r with
 |nil=>exact .nil
 | @cons p q ps qs h t ih =>
  obtain⟨h1,h2⟩:=h;rw[List.filter_cons,List.filter_cons]
  by_cases e:p.1=k
  ·have a:¬decide (p.1≠k)=true:=by simp[e]
   have b:¬decide (q.1≠k)=true:=by simp[h1.symm.trans e]
   rw[if_neg a,if_neg b];exact ih
  ·have e':¬q.1=k:=λz=>e (h1.trans z)
   have a:decide (p.1≠k)=true:=by simp[e]
   have b:decide (q.1≠k)=true:=by simp[e']
   rw[if_pos a,if_pos b];exact .cons ⟨h1,h2⟩ ih
theorem KV.keys{kvs:List (κ×V)}{vs:List (κ×Value)}(r:KV kvs vs):kvs.map (·.1)=vs.map (·.1):=by
 unfold KV at r
 induction r with
 |nil=>rfl
 |cons h t a=>rw[zd,zd,a,h.1]
theorem KV.length{kvs:List (κ×V)}{vs:List (κ×Value)}(r:KV kvs vs):kvs.length=vs.length:=Paired.length r
end
theorem qR{P:Program}{w:World}{k:Key}{u:Value}(r:RelV (kV k) u):(dC P w).is k u=true:=by
 cases k with
 |inl i=>obtain⟨t,e⟩:=(show ∃t,u=Value.int i t from r);subst e;exact Mv P w i t
 |inr x=>obtain⟨t,e⟩:=(show ∃t,u=Value.str x t from r);subst e;exact Mw P w x t
theorem qT{P:Program}{w:World}:∀{ks:List Key}{us:List Value},aN (ks.map kV) us->ItemsAre (dC P w) ks us
 | [],_,r=>by rw[zQ] at r;cases r;exact .nil
 |k::ks,_,r=>by
  rw[zd] at r
  cases r with
  |cons h t=>exact .cons (qR h) (qT t)
abbrev KT(H:Hp):List (List Key×V)->List (List Key×Addr×Value)->Prop:=Paired λp q=>p.1=q.1/\H q.2.1=some (.tup (p.1.map kV))/\RelV p.2 q.2.2
theorem KT.val{H:Hp}{kvs:List (List Key×V)}{xs:List (List Key×Addr×Value)}(r:KT H kvs xs)(k:List Key):dD (cI kvs k) ((atKey xs k).map (·.2)):=by
 induction r with
 |nil=>exact True.intro
 | @cons p q ps qs h t ih =>
  obtain⟨h1,_,h2⟩:=h
  by_cases e:p.1=k
  ·have e':q.1=k:=h1.symm.trans e
   have b:atKey (q::qs) k=some q.2:=by simp[atKey,List.find?_cons,e']
   rw[lr e,b];exact h2
  ·have e':¬q.1=k:=λz=>e (h1.trans z)
   have b:atKey (q::qs) k=atKey qs k:=by simp[atKey,List.find?_cons,e']
   rw[lu e,b];exact ih
theorem KT.repl{H:Hp}{kvs:List (List Key×V)}{xs:List (List Key×Addr×Value)}(r:KT H kvs xs)(k:List Key){y:V}{u:Value}(a:RelV y u):
  KT H (kvs.map λkv=>if kv.1=k then(kv.1,y) else kv) (xs.map (putAt k u)):=by
 induction r with
 |nil=>exact .nil
 | @cons p q ps qs h t ih =>
  rw[zd,zd];refine .cons ?_ ih;obtain⟨h1,h2,h3⟩:=h;unfold putAt
  by_cases e:p.1=k
  ·rw[if_pos e,if_pos (h1.symm.trans e)];exact⟨h1,h2,a⟩
  ·rw[if_neg e,if_neg (λz=>e (h1.trans z))];exact⟨h1,h2,h3⟩
theorem KT.put{H:Hp}{kvs:List (List Key×V)}{xs:List (List Key×Addr×Value)}(r:KT H kvs xs)(k:List Key){b:Addr}{y:V}{u:Value}(c:H b=some (.tup (k.map kV)))(a:RelV y u):
  KT H (putK kvs k y) (storedH xs k b u):=by
 have e:(kvs.any λkv=>decide (kv.1=k))=(atKey xs k).isSome:=by
  rw[qQ,(r.val k).isSome_eq,Option.isSome_map]
 unfold putK storedH;rw[e]
 by_cases q:(atKey xs k).isSome=true
 ·rw[if_pos q,if_pos q];exact r.repl k a
 ·rw[if_neg q,if_neg q];exact Paired.snoc r ⟨rfl,c,a⟩
theorem KT.keeps{H a:Hp}{kvs:List (List Key×V)}{xs:List (List Key×Addr×Value)}(r:KT H kvs xs)(c:∀b ys,H b=some (.tup ys)->a b=some (.tup ys)):KT a kvs xs :=
 Paired.mapP r λ_ _ z=>⟨z.1,c _ _ z.2.1,z.2.2⟩
section
variable {P:Program}{w:World}{H:Hp}{h:Heap}{a:Addr}
theorem vI{u:HO}(ok:HOk P w H h)(e:Rd H a u):bW P w H h a u:=e.ok ok
theorem vJ{kvs:List (Key×V)}(ok:HOk P w H h)(e:Rd H a (.dK kvs)):kvs.length<=sizeLine/\(a == sysModules)=false/\∃vs,KV kvs vs/\h.DictOf (dC P w) a vs :=
 show bW P w H h a (.dK kvs) from vI ok e
theorem Rh{kvs:List (Key×V)}(ok:HOk P w H h)(e:H a=some (.dK kvs)):kvs.length<=sizeLine/\(a == sysModules)=false/\∃vs,KV kvs vs/\h.DictOf (dC P w) a vs:=vJ ok (.inl e)
theorem DR{ks:List Key}(ok:HOk P w H h)(e:H a=some (.tup (ks.map kV))):(tupleKind (dC P w)).is h ks a:=by
 obtain⟨_,c,r,o,h1,h2,n,h3⟩:=(show bW P w H h a (.tup (ks.map kV)) from ok a _ e);exact⟨o,c.toArray,n,h1,h2,h3,by simpa using qT r⟩
theorem DW{kvs:List (List Key×V)}(ok:HOk P w H h)(e:Rd H a (.dT kvs)):kvs.length<=sizeLine/\(a == sysModules)=false /\
  ∃xs,KT H kvs xs/\h.DictOfH (tupleKind (dC P w)) a xs:=by
 obtain⟨z,y,xs,r,o,f,g,h1,h2,h3,h4,d⟩:=(show bW P w H h a (.dT kvs) from vI ok e);refine⟨z,y,xs,r,o,f,g,h1,h2,h3,h4,λx c=>?_,d⟩
 have all:∀{l:List (List Key×V)}{m:List (List Key×Addr×Value)},KT H l m->∀x∈m,(tupleKind (dC P w)).is h x.1 x.2.1:=by
  intro l m q
  induction q with
  |nil=>intro x c;exact nomatch c
  | @cons p q ps qs hq t ih =>
   intro x c
   rcases zp.mp c with e | c
   ·subst e;exact DR ok (by rw[<-hq.1];exact hq.2.1)
   ·exact ih x c
 exact all r x c
end
def mJ(H:Hp)(a:Addr)(y:V)(r:Option V):Prop :=
 (∃kvs k,Rd H a (.dK kvs)/\y=kV k/\r=cI kvs k)\/∃kvs k b,Rd H a (.dT kvs)/\y=.ref b/\H b=some (.tup (k.map kV))/\r=cI kvs k
def qU(H:Hp)(a:Addr)(y v:V)(c:Hp):Prop :=
 (∃kvs k,H a=some (.dK kvs)/\y=kV k/\kvs.length<sizeLine/\c=upd H a (.dK (putK kvs k v))) \/
 ∃kvs k b,H a=some (.dT kvs)/\y=.ref b/\H b=some (.tup (k.map kV))/\kvs.length<sizeLine/\c=upd H a (.dT (putK kvs k v))
theorem mJ.k{H:Hp}{a:Addr}{kvs:List (Key×V)}{k:Key}(e:H a=some (.dK kvs)):mJ H a (kV k) (cI kvs k):=.inl ⟨kvs,k,.inl e,rfl,rfl⟩
theorem mJ.t{H:Hp}{a b:Addr}{kvs:List (List Key×V)}{k:List Key}(e:H a=some (.dT kvs))(c:H b=some (.tup (k.map kV))):mJ H a (.ref b) (cI kvs k):=.inr ⟨kvs,k,b,.inl e,rfl,c,rfl⟩
theorem qU.k{H:Hp}{a:Addr}{kvs:List (Key×V)}{k:Key}{v:V}(e:H a=some (.dK kvs))(c:kvs.length<sizeLine):qU H a (kV k) v (upd H a (.dK (putK kvs k v))):=.inl ⟨kvs,k,e,rfl,c,rfl⟩
theorem qU.t{H:Hp}{a b:Addr}{kvs:List (List Key×V)}{k:List Key}{v:V}(e:H a=some (.dT kvs))(d:H b=some (.tup (k.map kV)))(c:kvs.length<sizeLine):
  qU H a (.ref b) v (upd H a (.dT (putK kvs k v))):=.inr ⟨kvs,k,b,e,rfl,d,c,rfl⟩
section
variable {X:Cx}{pins:List (Addr×Obj)}{σ:St}{H:Hp}{s:Shared}{a:Addr}{y v:V}{u r:Value}{o:Option V}{A:Around}{E:Value->Shared->Prop}
theorem Inv.big(I:Inv X pins σ H s):sysModules<s.heap.objs.size:=by
 have h:mainGlobals<s.heap.objs.size:=(I.mod.glob.keeps I.bk).lt;exact Nat.lt_trans (by decide) h
theorem DX{h':Heap}{t':Nat}{ob:HO}(I:Inv X pins σ H s)(d:Mut (H a))(hs:Heap.SameBut a s.heap h')(f:∃q,h'.get? a=some q)(c:bW X.prog X.w (upd H a ob) h' a ob):
  Inv X pins σ (upd H a ob) {s with heap:=h',toks:=t'}:=
 I.write (x:=a) (e:=a) d (.inl rfl) (λb q g z=>(hs.2 b g).trans z) f c
theorem Ri{P:Program}{w:World}{d:Hp}{h':Heap}{kvs:List (Key×V)}{vs:List (Key×Value)}(z:kvs.length<=sizeLine)(hd:(a == sysModules)=false)(rel:KV kvs vs)(c:h'.DictOf (dC P w) a vs):
  bW P w d h' a (.dK kvs):=⟨z,hd,vs,rel,c⟩
end
section
variable {X:Cx}{pins:List (Addr×Obj)}{σ:St}{H:Hp}{s:Shared}{a:Addr}{kvs:List (Key×V)}{k:Key}{u:Value}{A:Around}{E:Value->Shared->Prop}
end
def DY(i:Expr):Prop:=∀a c,subscripted i false a c=operate [a,c] (getItem a c)
theorem Rj{prog:Program}{w:World}{A:Around}{E:Value->Shared->Prop}{s:Shared}{env:Env}{value slice:Expr}{m:Pos}{T q:String}{Q:Value->Shared->Prop}
  (u:typeLookup (.type T) "__getitem__" = pure (some (.builtin q))) (hs:DY slice)
  (h:wpAny (model prog w) A (eval value env) (λo f=>wpAny (model prog w) A (eval slice env) (λi a=>a.TypeIs o T/\wpAny (model prog w) A (getItem o i) Q E a) E f) E s):
  wpAny (model prog w) A (eval (.Subscript value slice m) env) Q E s:=by
 refine Subscript_ (zM h (λo f l=>zM l (λi a c=>?_) λ_ _ x=>x) λ_ _ x=>x);obtain⟨n,c⟩:=c;unfold subscriptTail;refine za ?_;rw[getitemInPython_of_ne n.not_modules];refine za (wpAny_specialOf n u ?_)
 have g:wpAny (model prog w) A (subscripted slice false o i) (λr d=>wpAny (model prog w) A (letTemporaryGo value o r >>= λ_=>pure r) Q E d) E a:=by
  rw[hs o i];exact wpAny_operating (zM c (λr d j=>za (wpAny_letTemporaryGo (zb j))) λ_ _ x=>x)
 first
  | exact zb (za g)
  | exact za (zb (za g))
  | exact za g
section
variable {X:Cx}{o i e value:Expr}{pos pos' tpos:Pos}{td ty tv:TE}
end
theorem Rk{P:Program}{w:World}{H:Hp}(h:Heap)(a:sysModules<h.objs.size):bW P w H (h.push {cls:=.type "dict",data:=.dict #[]}) h.objs.size (.dK []):=
 ⟨Nat.zero_le _,beq_eq_false_iff_ne.mpr (Ne.symm (zo a)),[],.nil,Heap.DictOf.new h⟩
section
variable {X:Cx}{pos:Pos}
end
def qW:List (TE×TE)->St->Hp->(List (V×V)->Hp->Prop)->Prop
 | [],_,H,Q=>Q [] H
 | (tk,tv)::r,σ,H,Q=>tk σ H λx f=>tv σ f λy d=>qW r σ d λa c=>Q ((x,y)::a) c
abbrev VV:List (V×V)->List (Value×Value)->Prop:=Paired λp q=>RelV p.1 q.1/\RelV p.2 q.2
def PPs(X:Cx)(c:Pos)(keys:List (Option Expr))(values:List Expr)(a:List (TE×TE)):Prop :=
 ∀(pins:List (Addr×Obj)) (s:Shared) (σ:St) (H:Hp) (Q:List (V×V)->Hp->Prop),Inv X pins σ H s->qW a σ H Q ->
  wpAny (model X.prog X.w) X.A (evalPairs (pairTrees keys values X.env c)) (λg j=>∃d f,Inv X pins σ f j/\VV d g/\Q d f) X.xe s
theorem Rm{X:Cx}{a:Pos}:PPs X a [] [] []:=λpins s σ H Q I h=>pairTrees_nil_walk ⟨[],H,I,.nil,h⟩
theorem Rn{X:Cx}{c:Pos}{k v:Expr}{ks:List (Option Expr)}{vs:List Expr}{tk d:TE}{a:List (TE×TE)}(g:PE X k tk)(hv:PE X v d)(f:PPs X c ks vs a):
  PPs X c (some k::ks) (v::vs) ((tk,d)::a):=λpins s σ H Q I h =>
 pairTrees_cons_walk (thn (g pins s σ H _ I h) λu s1 ⟨x,H1,I1,rx,q1⟩=>thn (hv pins s1 σ H1 _ I1 q1) λw2 s2 ⟨y,H2,I2,ry,q2⟩ =>
  thn (f pins s2 σ H2 _ I2 q2) λws s3 ⟨ps,H3,I3,rel,q3⟩=>⟨(x,y)::ps,H3,I3,.cons ⟨rx,ry⟩ rel,q3⟩)
def jO(kvs more:List (Key×V)):List (Key×V):=more.foldl (λa kv=>putK a kv.1 kv.2) kvs
theorem KV.merge:∀{more:List (Key×V)}{a:List (Key×Value)}{kvs:List (Key×V)}{vs:List (Key×Value)},KV more a->KV kvs vs->KV (jO kvs more) (merged vs a):=by
 intro more a kvs vs r;unfold KV at r
 induction r generalizing kvs vs with
 |nil=>intro q;exact q
 | @cons p q ps qs h t ih =>
  intro c
  have e:KV (putK kvs p.1 p.2) (stored vs q.1 q.2):=by
   have:=c.put p.1 h.2
   rw[<-h.1];exact this
  exact ih e
theorem Ea:∀(more kvs:List (Key×V)),(jO kvs more).length<=kvs.length+more.length
 | [],kvs=>by show kvs.length<=kvs.length+0;omega
 |p::r,kvs=>by
  have h1:=Ea r (putK kvs p.1 p.2);have h2:=DQ kvs p.1 p.2;show(jO (putK kvs p.1 p.2) r).length<=_;rw[zv];omega
theorem Eb{P:Program}{w:World}:∀{kvs:List (Key×V)}{f:List (Value×Value)},VV (kvs.map λkv=>(kV kv.1,kv.2)) f->∃d,Carries (dC P w) f d/\KV kvs d
 | [],_,r=>by rw[zQ] at r;cases r;exact⟨[],True.intro,.nil⟩
 |p::kvs,_,r=>by
  rw[zd] at r
  cases r with
  | @cons a b as bs h t =>
   obtain⟨d,c,q⟩:=Eb (P:=P) (w:=w) t;obtain⟨j,g⟩:=b;exact⟨(p.1,g)::d,⟨qR h.1,rfl,c⟩,.cons ⟨rfl,h.2⟩ q⟩
def Ro(a:List (TE×TE)):TE:=λσ H Q=>∀p,H p=none->qW a σ (upd H p (.dK [])) λd c=>c p=some (.dK [])/\∃kvs:List (Key×V),d=kvs.map (λkv=>(kV kv.1,kv.2))/\kvs.length<=15/\Q (.ref p) (upd c p (.dK (jO [] kvs)))
theorem Rq{X:Cx}{f:Pos}{keys:List (Option Expr)}{values:List Expr}{d:List (TE×TE)}(h:PPs X f keys values d)(j:keys.all (·.isSome)=true)(B:keys.length=values.length)(h0:keys≠[])
  (l:keys.length<=15):PE X (.Dict keys values f) (Ro d):=by
 intro pins s σ H Q I q;have y:=I.hok.fresh (zc s.heap.objs.size);have F:=I.laid (a:=s.heap.objs.size) (o:=.dK []) (h':=s.heap.push {cls:=.type "dict",data:=.dict #[]}) (t':=s.toks) (λ_ _ q=>zl _ q) (zc _) (Rk s.heap I.big);refine wpAny_Dict_walk (knd:=dC X.prog X.w) j B h0 l (thn (h pins _ σ _ _ F (q _ y)) λws s2 ⟨ps,H2,I2,rel,e,kvs,ep,lk,q2⟩=>?_);subst ep;obtain⟨m,c,n⟩:=Eb (P:=X.prog) (w:=X.w) rel;obtain⟨z,hd,G,r,E⟩:=Rh I2.hok e;cases r;refine⟨m,c,E,λh' g x=>⟨.ref s.heap.objs.size,_,?_,rfl,q2⟩⟩
 have u:(jO [] kvs).length<=sizeLine:=by
  have h1:=Ea kvs [];rw[zT] at h1;rw[sizeLine_eq];omega
 have C:∃q,h'.get? s.heap.objs.size=some q:=let ⟨q,_,_,hq,_⟩:=g;⟨q,hq⟩;exact DX I2 (by rw[e];exact True.intro) x C (Ri u hd (n.merge .nil) g)
structure M1(X:Cx)(o:Expr)(m:Str)(apos:Pos)(e:Expr)(cpos:Pos):Prop where
 base:attributeBase o m X.env (eval o X.env)=eval o X.env
 few:((backTo cpos (starEach [e] X.env)).all (λx=>!x.1)&&(backToKw cpos (keywordEach [] X.env)).all (λx=>x.1.isSome)
  && decide (([e]:List Expr).length+([]:List Keyword).length+(if([]:List Keyword).isEmpty then 0 else 1)<30))=true
 line:(apos.endLine == cpos.line)=true
 trees:backTo cpos (starEach [e] X.env)=[(false,eval e X.env)]
structure M2(X:Cx)(o:Expr)(m:Str)(apos:Pos)(e f:Expr)(cpos:Pos):Prop where
 base:attributeBase o m X.env (eval o X.env)=eval o X.env
 few:((backTo cpos (starEach [e,f] X.env)).all (λx=>!x.1)&&(backToKw cpos (keywordEach [] X.env)).all (λx=>x.1.isSome)
  && decide (([e,f]:List Expr).length+([]:List Keyword).length+(if([]:List Keyword).isEmpty then 0 else 1)<30))=true
 line:(apos.endLine == cpos.line)=true
 trees:backTo cpos (starEach [e,f] X.env)=[(false,eval e X.env),(false,eval f X.env)]
def IsD(H:Hp)(a:Addr):Prop:=(∃kvs,Rd H a (.dK kvs))\/∃kvs,Rd H a (.dT kvs)
theorem Rr{X:Cx}{pins:List (Addr×Obj)}{σ:St}{H:Hp}{s:Shared}{a:Addr}(I:Inv X pins σ H s)(d:IsD H a):
  s.TypeIs (.ref a) "dict"/\(∀b,Value.ref a=.ref b->∃ob,s.heap.get? b=some ob/\ob.dict=none)/\(a == sysModules)=false:=by
 rcases d with⟨kvs,e⟩ | ⟨kvs,e⟩
 ·obtain⟨_,hd,g,_,c⟩:=vJ I.hok e;refine⟨c.typeIs,λb q=>?_,hd⟩;cases q;obtain⟨ob,_,_,h1,h2,_⟩:=c;exact⟨ob,h1,h2.2.1⟩
 ·obtain⟨_,hd,f,_,c⟩:=DW I.hok e;refine⟨c.typeIs,λb q=>?_,hd⟩;cases q;obtain⟨ob,_,_,h1,h2,_⟩:=c;exact⟨ob,h1,h2.2.1⟩
section
variable {X:Cx}{pins:List (Addr×Obj)}{σ:St}{H:Hp}{s:Shared}{a:Addr}{y d:V}{u r:Value}{o:Option V}{A:Around}{E:Value->Shared->Prop}
theorem Rt{Q:Value->Shared->Prop}(x:A.units+1<cLine)(I:Inv X pins σ H s)(g:mJ H a y o)(n:RelV y u)(rd:RelV d r)(h:∀j m,Inv X pins σ H m->RelV (o.getD d) j->Q j m):
  wpAny (model X.prog X.w) A (call (.builtin "dict.get") [.ref a,u,r]) Q E s:=by
 rcases g with⟨kvs,k,e,f,l⟩ | ⟨kvs,k,b,e,f,B,l⟩
 ·subst f;obtain⟨z,hd,C,rel,c⟩:=vJ I.hok e;refine call_meetsIn PySem.F.slot_dict_get c.typeIs PySem.F.entry_dict_get (PySem.F.args_dict_get_3 _ _ _) (meets_dict_get_default (dC X.prog X.w) a (qR n) hd r) ⟨_,c.mapOf,h _ _ (I.tok _) ?_⟩;rw[l];exact(rel.val k).getD rd
 ·subst f;cases(show u=Value.ref b from n);obtain⟨z,hd,q,rel,c⟩:=DW I.hok e;refine call_meetsIn PySem.F.slot_dict_get c.typeIs PySem.F.entry_dict_get (PySem.F.args_dict_get_3 _ _ _) (meetsH_dict_get_default (tupleKind (dC X.prog X.w)) a b hd r) ⟨tupleKind_room_in1 x,k,q,DR I.hok B,c,h _ _ (I.tok _) ?_⟩;rw[l];exact(rel.val k).getD rd
end
def Ru(g ty f:TE):TE:=λσ H Q=>g σ H λx d=>∃a,x=.ref a/\IsD d a/\ty σ d λy j=>f σ j λz c=>∃o,mJ c a y o/\Q (o.getD z) c
section
variable {X:Cx}{o e f:Expr}{apos cpos:Pos}{td ty tx:TE}
theorem Rv(j:X.A.units+1<cLine)(l:PE X o td)(q:PE X e ty)(n:PE X f tx)(m:M2 X o "get" apos e f cpos):PE X (.Call (.Attribute o "get" apos) [e,f] [] cpos) (Ru td ty tx):=by
 intro pins s σ H Q I h;refine wpAny_Call_method m.base m.few m.line PySem.F.plainAttrs_dict PySem.F.slot_dict_get PySem.F.type_dict_get (thn (l pins s σ H _ I h) λu s1 ⟨x,H1,I1,rx,a,ex,d,q1⟩=>?_);subst ex;obtain rfl:u=Value.ref a:=rx;obtain⟨t1,t2,_⟩:=Rr I1 d;refine⟨t1,t2,?_⟩;rw[m.trees]
 refine Calls.callWith_builtin rfl (Calls.evalArgs_plain (Calls.spliced_cons (thn (q pins s1 σ H1 _ I1 q1) λiv s2 ⟨y,H2,I2,ry,q2⟩ =>
  Calls.spliced_cons (thn (n pins s2 σ H2 _ I2 q2) λfv s3 ⟨z,H3,I3,rz,ov,g,q3⟩=>Calls.spliced_nil ?_))))
 exact Rt j I3 g ry rz λB C r c=>⟨_,H3,r,c,q3⟩
end
section
variable {X:Cx}{pins:List (Addr×Obj)}{σ:St}{H:Hp}{s:Shared}{a:Addr}{kvs:List (Key×V)}{A:Around}{E:Value->Shared->Prop}
end
section
variable {X:Cx}{pins:List (Addr×Obj)}{σ:St}{H:Hp}{s:Shared}{a:Addr}{y:V}{u:Value}{A:Around}{E:Value->Shared->Prop}
end
section
variable {X:Cx}
end
section
variable {κ:Type}[DecidableEq κ]
end
def jq(cells:List (Str×Addr)):List (Str×NameKind)->List (Str×Addr)->List (Str×Addr)
 | [],acc=>acc
 | (n,k)::r,acc=>if k == .free then jq cells r ((n,(cells.lookup n).getD 0)::acc) else jq cells r acc
def jP(scope:Scope)(env:Env):List (Str×Addr):=jq env.cells scope.names []
theorem Ec{scope:Scope}{env:Env}(f:∀y∈scope.names,y.2=.free->∃c,env.cells.lookup y.1=some c):closureFor scope env=pure (jP scope env):=by
 simp only[closureFor,jP]
 generalize ([]:List (Str×Addr))=g
 generalize scope.names=names at f
 induction names generalizing g with
 |nil=>rfl
 |cons y r ih =>
  obtain⟨n,k⟩:=y
  have j:=λa=>ih a λz l=>f z (zq _ l)
  by_cases d:k=.free
  ·obtain⟨c,m⟩:=f (n,k) zg d;have hc':env.cells.lookup n=some c:=m;subst d;simp only[List.forIn_cons,beq_self_eq_true,if_true,cellOf,hc',pure_bind,bind_assoc,jq,Option.getD_some];exact j _
  ·have q:(k == NameKind.free)=false:=by simpa using d
   simp only[List.forIn_cons,q,Bool.false_eq_true,if_false,pure_bind,bind_assoc,jq];exact j _
theorem vK{cells:List (Str×Addr)}{x:Str}{c:Addr}:∀{names:List (Str×NameKind)}{acc:List (Str×Addr)},(jq cells names acc).lookup x=some c->acc.lookup x=some c\/(∃k,(x,k)∈names/\k=.free/\(cells.lookup x).getD 0=c)
 | [],acc,h=>.inl h
 | (n,k)::r,acc,h=>by
  unfold jq at h
  by_cases g:k=.free
  ·subst g;simp only[beq_self_eq_true,if_true] at h
   rcases vK h with z | ⟨k,a,q⟩
   ·rw[List.lookup_cons] at z
    by_cases f:x=n
    ·subst f;simp at z;exact .inr ⟨.free,zg,rfl,z⟩
    ·have d:(x == n)=false:=by simpa using f
     rw[d] at z;exact .inl z
   ·exact .inr ⟨k,zq _ a,q⟩
  ·have d:(k == NameKind.free)=false:=by simpa using g
   simp only[d,Bool.false_eq_true,if_false] at h
   rcases vK h with z | ⟨k,a,q⟩
   ·exact .inl z
   ·exact .inr ⟨k,zq _ a,q⟩
theorem qX{cells:List (Str×Addr)}{x:Str}:∀{names:List (Str×NameKind)}{acc:List (Str×Addr)},((∃c,acc.lookup x=some c)\/(x,NameKind.free)∈names)->∃c,(jq cells names acc).lookup x=some c
 | [],acc,h=>by
  rcases h with h | h
  ·exact h
  ·cases h
 | (n,k)::r,acc,h=>by
  unfold jq
  by_cases d:k=.free
  ·subst d;simp only[beq_self_eq_true,if_true];refine qX ?_
   by_cases a:x=n
   ·subst a;exact .inl ⟨(cells.lookup x).getD 0,by simp[List.lookup_cons]⟩
   ·have f:(x == n)=false:=by simpa using a
    rcases h with⟨c,h⟩ | h
    ·exact .inl ⟨c,by rw[List.lookup_cons,f];exact h⟩
    ·rcases zp.mp h with e | h
     ·cases e;exact absurd rfl a
     ·exact .inr h
  ·have f:(k == NameKind.free)=false:=by simpa using d
   simp only[f,Bool.false_eq_true,if_false];refine qX ?_
   rcases h with h | h
   ·exact .inl h
   ·rcases zp.mp h with e | h
    ·cases e;exact absurd rfl d
    ·exact .inr h
def iz(scope a:Scope):List (Str×NameKind):=
 scope.names.map λ(n,k)=>if(k == .free&&a.kind == .function&&a.names.lookup n == some .cell) then(n,.cell) else(n,k)
theorem Ed{scope a:Scope}(j:∀y∈scope.names,y.2≠.cell){x:Str}{k:NameKind}(h:(iz scope a).lookup x=some k)(g:k=.cell\/k=.free):(x,NameKind.free)∈scope.names:=by
 have f:=PySem.mem_of_lookup h;unfold iz at f;obtain⟨⟨n,d⟩,h1,h2⟩:=zy.mp f;dsimp only at h2
 by_cases c:(d == NameKind.free&&a.kind == .function&&a.names.lookup n == some .cell)=true
 ·rw[if_pos c] at h2
  have e:d=.free:=by
   simp only[zm,beq_iff_eq] at c;exact c.1.1
  cases h2;rw[<-e];exact h1
 ·rw[if_neg c] at h2;cases h2
  rcases g with e | e
  ·exact absurd e (j _ h1)
  ·rw[<-e];exact h1
def bM(a own:List Str)(cap:List Nat):List Str:=own++cap.map λj=>a.getD j (Str.ofString "")
def compSt(own:List Str)(cap:List Nat)(σ:St):St:=own.map (λ_=>none)++cap.map λj=>(σ[j]?).join
def mK(a:Scope)(c:List Str)(scope:Scope)(own:List Str)(cap:List Nat):Bool :=
 (scope.kind == .function)&&scope.names.all (λy=>y.2 != .cell)&&scope.names.all (λy=>y.2 != .local || scope.names.lookup y.1 == some .local) &&
 scope.names.all (λy=>y.2 != .free || a.names.lookup y.1 == some .cell || a.names.lookup y.1 == some .free) &&
 cap.all λj=>decide (j<c.length)&&scope.names.contains (c.getD j (Str.ofString ""),NameKind.free)&&((iz scope a).lookup (c.getD j (Str.ofString "")) == some .cell || (iz scope a).lookup (c.getD j (Str.ofString "")) == some .free)
structure jr(sc0:Scope)(N0:List Str)(scope:Scope)(own:List Str)(cap:List Nat):Prop where
 kind:scope.kind=.function
 nocell:∀y∈scope.names,y.2≠.cell
 names:∀y∈scope.names,y.2=.local->scope.names.lookup y.1=some .local
 free:∀y∈scope.names,y.2=.free->sc0.names.lookup y.1=some .cell\/sc0.names.lookup y.1=some .free
 cap:∀j∈cap,j<N0.length/\(N0.getD j (Str.ofString ""),NameKind.free)∈scope.names/\((iz scope sc0).lookup (N0.getD j (Str.ofString ""))=some .cell\/(iz scope sc0).lookup (N0.getD j (Str.ofString ""))=some .free)
theorem jr.of{d:Scope}{g:List Str}{scope:Scope}{own:List Str}{cap:List Nat}(h:mK d g scope own cap=true):jr d g scope own cap:=by
 unfold mK at h;simp only[zm,List.all_eq_true,beq_iff_eq,bne_iff_ne,ne_eq,Bool.or_eq_true,decide_eq_true_eq,List.contains_iff_mem] at h;obtain⟨⟨⟨⟨h1,h2⟩,h3⟩,h4⟩,m⟩:=h;refine⟨h1,h2,λy f e=>?_,λy f e=>?_,λj l=>?_⟩
 ·rcases h3 y f with z | z
  ·exact absurd e z
  ·exact z
 ·rcases h4 y f with(z | z) | z
  ·exact absurd e z
  ·exact .inl z
  ·exact .inr z
 ·obtain⟨⟨a,b⟩,c⟩:=m j l;exact⟨a,b,c⟩
def cF(X:Cx)(scope:Scope)(C:Addr)(N':List Str)(s:Shared)(H:Hp)(ex:List Addr):Cx where
 prog:=X.prog
 w:=X.w
 K:=X.K
 mg:=X.mg
 base:=X.base
 A:=X.A
 N:=N'
 s₀:=s
 H₀:=H
 env:=compEnvC scope (jP scope X.env) C X.env
 outer:=X.stack
 stack:=X.stack
 ex:=ex
 fn:=λ_=>false
 calm:=X.calm
 pn:=[]
 xe:=λ_ _=>False
section
variable {X:Cx}
def jQ(X:Cx)(a:List Expr)(t:TT):Prop :=
 ∀(pins:List (Addr×Obj)) (s:Shared) (σ:St) (H:Hp) (Q:Bool->Hp->Prop),Inv X pins σ H s->t σ H Q ->
  wpAny (model X.prog X.w) X.A (forIn a true λc r=>if r=true then do let ok <-isTrue c X.env (eval c X.env);pure (ForInStep.yield ok) else pure (ForInStep.yield r)) (TP X pins σ Q) X.xe s
def Rw:TT:=λ_ H Q=>Q true H
theorem Rx:jQ X [] Rw:=λ_ _ _ H _ I h=>wpAny_tests_nil ⟨H,I,h⟩
theorem Ry{c:Expr}{t:TT}(h:PT X c t):jQ X [c] t:=λpins s σ H Q I q=>wpAny_tests_one (h pins s σ H Q I q)
end
def Ef(J:It)(g:TG)(n:TT)(q:TE)(Q:List V->Hp->Prop)(j:St)(B:Hp):Prop :=
 ∃W:Nat->Nat->List V->St->Hp->Prop,(∃m,W 0 m [] j B)/\∀i m c σ H,W i m c σ H ->
  (J.stop i H/\Q c H)\/(J.go i H/\c.length<sizeLine/\∃N:List V->St->Hp->Prop,(∀c f d,N c f d->∃l,l<m/\W (i+1) l c f d)/\∀x d,J.yld i H x d->g x σ d λa u=>n a u λb H3 =>
   if b=true then q a H3 λy r=>N (c++[y]) a r else N c a H3)
def vL(d:TI)(own:List Str)(cap:List Nat)(g:TG)(f:TT)(j:TE):TE:=λσ H Q =>
 d σ H λJ l=>Ef J g f j (λa c=>a.length<=sizeLine/\∀p,c p=none->Q (.ref p) (upd c p (.lst a))) (compSt own cap σ) l
section
variable {prog:Program}{w:World}{A:Around}{R:Result->Shared->Prop}{s:Shared}
theorem Rz{C target iter:Expr}{B:List Expr}{scope:Scope}{F:Pos}{it acc:Value}{env:Env}(I:Nat->Shared->Prop)
  (turn:∀n s,I n s->wpAny (model prog w) A (pyNext it) (λr f=>match r with
   |none=>R (.ok .next) f
   |some v=>wpAny (model prog w) A (letOwnedTupleGo target it v) (λ_ g=>wpAny (model prog w) A (assign target env v) (λ_ q =>
     wpAny (model prog w) A (forIn B true λc r=>if r=true then do let ok <-isTrue c env (eval c env);pure (ForInStep.yield ok) else pure (ForInStep.yield r)) (λok d =>
      if ok=true then wpAny (model prog w) A (eval C env) (λx l =>
       wpAny (model prog w) A (call (.builtin "list.append") [acc,x]) (λ_ j=>∃m,m<n/\I m j) (λ_ _=>False) l) (λ_ _=>False) d
      else ∃m,m<n/\I m d) (λ_ _=>False) q) (λ_ _=>False) g) (λ_ _=>False) f) (λ_ _=>False) s)
  (n:Nat) (h:I n s):
  codeAny (model prog w) A (.compLoop (.ListComp C [⟨target,iter,B,0⟩] scope F) 0 it acc env) R s:=by
 refine codeAny_loop rfl I (λn s L=>?_) n h;show wpAny _ A ((compTurn (.ListComp C [⟨target,iter,B,0⟩] scope F) 0 it acc env).onRaise (λx=>do noteFrame x env;theTreesLotGoes x)) _ _ s;refine wpAny_noted ?_;rw[compTurn_list];refine za (wpAny_standAt (za (zM (turn n s L) (λr f y=>?_) λ_ _ a=>a.elim)))
 cases r with
 |none=>exact zb y
 |some v =>
  refine za (zM y (λ_ g E=>?_) λ_ _ a=>a.elim);refine za (zM E (λ_ q J=>za (zM J (λok d u=>?_) λ_ _ a=>a.elim)) λ_ _ a=>a.elim)
  cases ok with
  |false=>exact zb ⟨rfl,u⟩
  |true =>
   exact za (za (zM u (λx l H=>za (zM H (λ_ j G=>zb (zb ⟨rfl,G⟩)) λ_ _ a=>a.elim)) λ_ _ a=>a.elim))
end
section
variable {X:Cx}{pins:List (Addr×Obj)}{σ:St}{s2:Shared}{H2:Hp}{elt tg iter:Expr}{ifs:List Expr}{scope:Scope}{pos:Pos}{g:TG}{tt:TT}{te:TE}{sc0:Scope}{N0 own:List Str}{cap:List Nat}
 {it:Addr}{fp:List Addr}{tn:Nat->Heap->Prop}{J:It}
theorem vM(f:Inv X pins σ H2 s2)(a:X.env.scope=sc0)(ok:jr sc0 N0 scope own cap):∀y∈scope.names,y.2=.free->∃c,X.env.cells.lookup y.1=some c:=λy d e=>by
 refine f.ok.has y.1 ?_;have q:=ok.free y d e;rw[<-a] at q;exact q
theorem jR(l:Inv X pins σ H2 s2)(a:X.env.scope=sc0)(ok:jr sc0 N0 scope own cap){x:Str}{c:Addr}(h:(jP scope X.env).lookup x=some c):X.env.cells.lookup x=some c:=by
 rcases vK h with z | ⟨k,d,f,q⟩
 ·simp at z
 ·obtain⟨j,e⟩:=vM l a ok (x,k) d f;have e':X.env.cells.lookup x=some j:=e;rw[e'] at q;rw[e',<-q];rfl
theorem RB(a:Inv X pins σ H2 s2)(f:X.env.scope=sc0)(ok:jr sc0 N0 scope own cap)(T:Turn X.prog X.w X.K tg J fp it tn)(l:tn 0 s2.heap)(j:∀b∈fp,fZ X pins H2 b)
  (C:Addr) (m:s2.heap.objs.size<=C):(cF X scope C (bM N0 own cap) s2 H2 fp).Ok:=by
 have lt:∀b∈fp,b<s2.heap.objs.size:=λb d=>by
  obtain⟨o,e,_⟩:=T.obj 0 _ l b d;exact zk e
 have rel:(relabel scope X.env).names=iz scope sc0:=by rw[<-f];rfl
 refine⟨a.ok.mod,ok.kind,a.ok.glob,a.ok.blt,m,λx y c h1 h2=>?_,λx r=>?_,λx c hf _=>absurd hf (by simp[cF]),a.ok.hd,a.ok.frames,.inl rfl,λb d=>⟨?_,λx c h=>?_⟩,a.bs,zG a.ok.bsz a.sz,
  λb o e d=>?_,λb d n=>?_,a.stack,a.stkFree⟩
 ·exact a.ok.inj x y c (jR a f ok h1) (jR a f ok h2)
 ·have hx':(iz scope sc0).lookup x=some .cell\/(iz scope sc0).lookup x=some .free:=by rw[<-rel];exact r
  have u:(x,NameKind.free)∈scope.names:=by
   rcases hx' with q | q
   ·exact Ed ok.nocell q (.inl rfl)
   ·exact Ed ok.nocell q (.inr rfl)
  exact qX (.inr u)
 ·exact zo (zF (lt b d) m)
 ·exact(j b d).2.2.2.2.1 x c (jR a f ok h)
 ·rcases(j b d).2.2.2.1 with z | z
  ·exact a.ok.noex b o e z
  ·exact absurd (zF (zk e) (zG a.ok.bsz z)) (zY _)
 ·rcases zp.mp (a.stkSub b n) with z | z
  ·exact(j b d).2.1 z
  ·exact(j b d).2.2.1 z
theorem RC(f:Inv X pins σ H2 s2)(a:X.env.scope=sc0)(O:X.N=N0)(ok:jr sc0 N0 scope own cap)(T:Turn X.prog X.w X.K tg J fp it tn)(I:tn 0 s2.heap)(f2:∀b∈fp,fZ X pins H2 b)
  (C:Addr) (U:s2.heap.objs.size<=C) {d:Heap}{tk:Nat}{m:Str->Option Value} (n:∀b o,s2.heap.get? b=some o->d.get? b=some o) (L:d.Ns C m):
  Inv (cF X scope C (bM N0 own cap) s2 H2 fp) [] (compSt own cap σ) H2 {s2 with heap:=d,toks:=tk}:=by
 have rel:(relabel scope X.env).names=iz scope sc0:=by rw[<-a];rfl
 refine⟨RB f a ok T I f2 C U,rfl,f.bare,Un.kept n,⟨m,L,λi x v e1 e2 _=>?_⟩,λx c h=>?_,f.hok.fresh U,λx c h=>?_,λp W=>absurd (show p∈([]:List (Addr×Obj)) from W) (by simp),f.hok.kept n,?_⟩
 ·have e1':(bM N0 own cap)[i]?=some x:=e1;unfold bM at e1';unfold compSt at e2
  by_cases H:i<own.length
  ·rw[zB (by simpa using H),zD] at e2
   cases q:own[i]? with
   |none=>rw[q] at e2;cases e2
   |some z=>rw[q] at e2;cases e2
  ·rw[zH (by simpa using H),zD] at e2;rw[zH (by simpa using H),zD] at e1';rw[zf] at e2
   cases q:cap[i - own.length]? with
   |none=>rw[q] at e2;cases e2
   |some j =>
    rw[q] at e1' e2;have ex:N0.getD j (Str.ofString "")=x:=zz e1';have B:(σ[j]?).join=some v:=zz e2;obtain⟨R,G,Q⟩:=ok.cap j (zJ q);rw[ex] at G Q
    have eN:X.N[j]?=some x:=by
     rw[O,zu R];rw[je,zu R] at ex;exact congrArg some ex
    have P:σ[j]?=some (some v):=by
     cases z:σ[j]? with
     |none=>rw[z] at B;cases B
     |some o=>rw[z] at B;cases o with
      |none=>cases B
      |some y=>exact congrArg some B
    have kf:X.env.kindOf x=some .cell\/X.env.kindOf x=some .free:=by
     have z:=ok.free _ G rfl;rw[<-a] at z;exact z
    obtain⟨m0,hn0,Y⟩:=f.loc;obtain⟨u,r,l⟩:=Y j x v eN P (kf.elim (λz=>.inr (.inl z)) λz=>.inr (.inr z));refine⟨u,r,.inr ⟨?_,?_⟩⟩
    ·show(relabel scope X.env).names.lookup x=_\/(relabel scope X.env).names.lookup x=_;rw[rel];exact Q
    ·rcases l with⟨l,_⟩ | ⟨_,c,Z,⟨o,F,hd⟩⟩
     ·rcases kf with z | z<;>(rw[z] at l;cases l)
     ·obtain⟨c',E⟩:=qX (cells:=X.env.cells) (names:=scope.names) (acc:=[]) (.inr G);have z:=jR f a ok E;rw[Z] at z;cases z;exact⟨c,E,o,n _ _ F,hd⟩
 ·obtain⟨v,o,F,hd⟩:=f.cell x c (jR f a ok h);exact⟨v,o,n _ _ F,hd⟩
 ·exact f.freeC x c (jR f a ok h)
 ·show(compSt own cap σ).length=(bM N0 own cap).length;unfold compSt bM;simp
theorem Eg{Q:List V->Hp->Prop}{RR:Value->Addr->Result->Shared->Prop}{E:Value->Shared->Prop}(hc:X.calm=true)(I2:Inv X pins σ H2 s2)(hsc:X.env.scope=sc0)(hN0:X.N=N0)(ok:jr sc0 N0 scope own cap)
  (hg:∀C s H ex,PG (cF X scope C (bM N0 own cap) s H ex) tg g) (ht:∀C s H ex,jQ (cF X scope C (bM N0 own cap) s H ex) ifs tt) (he:∀C s H ex,PE (cF X scope C (bM N0 own cap) s H ex) elt te)
  (T:Turn X.prog X.w X.K tg J fp it tn) (st2:tn 0 s2.heap) (f2:∀b∈fp,fZ X pins H2 b) (hW:Ef J g tt te Q (compSt own cap σ) H2)
  (hRR:∀D C oC ys F R,Inv X (pins++[(C,oC)]) σ (upd F D (.lst ys)) R->(∀h:Heap,h.get? C=some oC->∃m,h.Ns C m)->fZ X pins (upd F D (.lst ys)) C->F D=none->Q ys F->RR (.ref D) C (.ok .next) R)
  (hQsz:∀ys F,Q ys F->ys.length<=sizeLine):
  wpAny (model X.prog X.w) X.A (newList []) (λacc O=>wpAny (model X.prog X.w) X.A (newFunctionEnv scope X.env.globals (jP scope X.env) [] X.env.qual none .none (some X.env)) (λcenv s₄ =>
   codeAny (model X.prog X.w) X.A (.compStart (.ListComp elt [⟨tg,iter,ifs,0⟩] scope pos) 0 (.ref it) acc {cenv with scope:=relabel scope X.env}) (RR acc cenv.locals) s₄) E O) E s2:=by
 refine wpAny_newObj_type (wpAny_newFunctionEnv ok.nocell (by intro y hy;simp at hy) (λU L l=>?_) ok.kind);dsimp only at L l ⊢
 generalize hP2:s2.heap.push {cls:=.type "list",dict:=none,data:=.seq ([]:List Value).toArray}=B at L l ⊢
 have hC:B.objs.size=s2.heap.objs.size+1:=by rw[<-hP2,Heap.size_push]
 have hDC:s2.heap.objs.size≠B.objs.size:=by rw[hC];exact zo (zZ _)
 have hCle:s2.heap.objs.size<=B.objs.size:=by rw[hC];exact Nat.le_succ _
 have below:∀b,b<s2.heap.objs.size->b≠B.objs.size/\b≠s2.heap.objs.size:=λb j=>⟨by rw[hC];exact zo (jf j),zo j⟩
 have ltf:∀b∈fp,b<s2.heap.objs.size:=λb j=>by
  obtain⟨o,e,_⟩:=T.obj 0 _ st2 b j;exact zk e
 have old:∀b o,s2.heap.get? b=some o->U.get? b=some o:=λb o e=>l.extBut b o (below b (zk e)).1 (zl _ (hP2 ▸ zl _ e))
 have hacc:U.PlainList s2.heap.objs.size #[]:=⟨_,l.extBut _ _ hDC (zl _ (hP2 ▸ zx _ rfl))⟩
 have st₁:tn 0 U:=T.keep _ _ _ st2 λb _ o e=>old b o e
 have hDno:∀b∈fp,s2.heap.objs.size≠b:=λb j=>(below b (ltf b j)).2.symm
 generalize hXe:cF X scope B.objs.size (bM N0 own cap) s2 H2 fp=X'
 have loop:∀O:Shared,O = {s2 with heap:=U,toks:=s2.toks+([]:List (Str×Value)).length} ->
   codeAny (model X.prog X.w) X.A (.compLoop (.ListComp elt [⟨tg,iter,ifs,0⟩] scope pos) 0 (.ref it) (.ref s2.heap.objs.size) (compEnvC scope (jP scope X.env) B.objs.size X.env))
    (RR (.ref s2.heap.objs.size) B.objs.size) O:=by
  rintro O rfl;obtain⟨W,⟨m0,w0⟩,turn⟩:=hW;subst hXe
  have stat:∀{F:Hp}{oD:Obj},(∀b∈fp,F b=none)->∀b∈fp,fZ (cF X scope B.objs.size (bM N0 own cap) s2 H2 fp) [(s2.heap.objs.size,oD)] F b:=λ{F oD} hn b j =>
   ⟨hn b j,(below b (ltf b j)).1,λz=>by
    rcases zp.mp (I2.stkSub b z) with z | z
    ·exact(f2 b j).2.1 z
    ·exact(f2 b j).2.2.1 z,.inl j,λx c h=>(f2 b j).2.2.2.2.1 x c (jR I2 hsc ok h),λp hp=>by
    have e:p=(s2.heap.objs.size,oD):=by simpa [cF] using hp
    rw[e];exact hDno b j⟩
  have notcell:∀x c,(jP scope X.env).lookup x=some c->c≠s2.heap.objs.size:=λx c h z=>by
   obtain⟨v,o,ho,hd⟩:=I2.cell x c (jR I2 hsc ok h);exact absurd (zk ho) (by rw[z];exact zY _)
  have nofs:s2.heap.objs.size∉frs X.stack:=λz=>by
   rcases zp.mp (I2.stkSub _ z) with z | z
   ·exact absurd I2.lt (by rw[z];exact zY _)
   ·exact I2.nofs (zc _) z
  have pinD:∀{G:St}{F:Hp}{R:Shared}{f:Array Value}{k:Nat},Inv (cF X scope B.objs.size (bM N0 own cap) s2 H2 fp) [] G F R->F s2.heap.objs.size=none ->
    R.heap.get? s2.heap.objs.size=some {cls:=.type "list",data:=.seq f k}->Inv (cF X scope B.objs.size (bM N0 own cap) s2 H2 fp) [(s2.heap.objs.size,{cls:=.type "list",data:=.seq f k})] G F R :=
   λ{G F R f k} I hn hd=>I.pins_of λp hp=>by
    have e:p=(s2.heap.objs.size,{cls:=.type "list",data:=.seq f k}):=by simpa using hp
    subst e;exact⟨hd,hn,hDC,nofs,λv z=>by cases z⟩
  obtain⟨k0,hk0⟩:=hacc;refine Rz (env:=compEnvC scope (jP scope X.env) B.objs.size X.env)
   (λn R=>∃i ys f k G F,Inv (cF X scope B.objs.size (bM N0 own cap) s2 H2 fp) [(s2.heap.objs.size,{cls:=.type "list",data:=.seq f k})] G F R/\tn i R.heap/\(∀b∈fp,F b=none)/\aN ys f.toList/\W i n ys G F) ?_ m0
   ⟨0,[],#[],k0,_,H2,pinD (RC I2 hsc hN0 ok T st2 f2 _ hCle old L) (I2.hok.fresh (zc _)) hk0,st₁,λb j=>(f2 b j).1,.nil,w0⟩
  rintro n s3 ⟨i,ys,f,k,σ3,H3,I3,st3,fr3,hv,w3⟩
  rcases turn i n ys σ3 H3 w3 with⟨stop,qn⟩ | ⟨go,hsz,N,hN,step⟩
  ·refine thn (T.done (cF X scope B.objs.size (bM N0 own cap) s2 H2 fp) rfl rfl rfl hc i _ s3 σ3 H3 _ I3 (stat fr3) st3 stop) λr s4 ⟨hr,Z⟩=>?_
   subst hr;show RR _ _ (.ok .next) s4;obtain⟨hd4,P,_⟩:=Z.pin (s2.heap.objs.size,{cls:=.type "list",data:=.seq f k}) (by simp[cF]);dsimp only at hd4 P;obtain⟨m4,hns4,_⟩:=id Z.loc;have hns4':s4.heap.Ns B.objs.size m4:=hns4;obtain⟨oC,es,ep,hoC,rC⟩:=id hns4';have cne:B.objs.size≠s2.heap.objs.size:=hDC.symm;have freeC:H3 B.objs.size=none:=Z.free;have Y:fZ X pins (upd H3 s2.heap.objs.size (.lst ys)) B.objs.size:=I2.fpOk hCle (by rw[aL cne];exact freeC)
   have hlen:ys.length=f.size:=by have e:=hv.length;simpa using e
   have I5:Inv X pins σ (upd H3 s2.heap.objs.size (.lst ys)) s4:=by
    refine I2.call' (ch:=fp) Z.os ⟨Z.base.keep,Z.base.slot,λb o e n hx=>?_,Z.base.there,λb xs e=>?_,λb o u e=>?_,λb ps e=>?_⟩ (λb u e=>?_) Z.bare λb j=>?_
    ·rw[aL (zo (zk e))];exact Z.base.free b o e n hx
    ·have q:=Z.base.tups b xs e;rw[aL (cz q P)];exact q
    ·have q:=Z.base.frzs b o u e;rw[aL (cz q P)];exact q
    ·obtain⟨more,q⟩:=Z.base.tbls b ps e;exact⟨more,by rw[aL (cz q P)];exact q⟩
    ·by_cases j:b=s2.heap.objs.size
     ·subst j;rw[bI] at e;cases e;exact⟨hQsz ys H3 qn,f.toList,k,hv,by simpa using hd4⟩
     ·rw[aL j] at e
      exact(Z.hok b u e).stay (λ_ _ _ q=>q) (λc q=>by rw[aL (cz q P)];exact q) λc xs q=>by rw[aL (cz q P)];exact q
    ·obtain⟨_,a2,_,a4,a5,a6⟩:=f2 b j;exact⟨a4,a2,a5,a6⟩
   refine hRR s2.heap.objs.size B.objs.size oC ys H3 s4 (I5.pins_of λp hp=>?_) (λh e=>⟨m4,oC,es,ep,e,rC⟩) Y P qn
   rcases zC.mp hp with z | z
   ·exact I5.pin p (zS _ z)
   ·have e:p=(B.objs.size,oC):=by simpa using z
    subst e
    exact⟨hoC,Y.1,Y.2.1,Y.2.2.1,λv z=>by
     have:=rC.1
     rw[this] at z;cases z⟩
  ·refine thn (T.item (cF X scope B.objs.size (bM N0 own cap) s2 H2 fp) rfl rfl rfl hc i _ s3 σ3 H3 _ I3 (stat fr3) st3 go) λr s4 ⟨u,hr,h4⟩=>?_
   subst hr
   refine thn h4 λ_ s5 ⟨x,H5,I5,r5,y5,st5,fr5⟩=>?_
   have I5':=I5.pinned (stat fr5) (T.obj _ _ st5)
   refine thn (hg _ _ _ _ _ s5 σ3 H5 x u _ I5' r5 (step x H5 y5)) λ_ s6 ⟨σ6,H6,I6,q6⟩=>?_
   refine thn (ht _ _ _ _ _ s6 σ6 H6 _ I6 q6) λb s7 ⟨H7,I7,q7⟩=>?_
   have keepT:∀{G:St}{F:Hp}{R:Shared},Inv (cF X scope B.objs.size (bM N0 own cap) s2 H2 fp) ([(s2.heap.objs.size,{cls:=.type "list",data:=.seq f k})]++oH fp s5.heap) G F R->tn (i+1) R.heap/\∀b∈fp,F b=none:=λ{G F R} I'=>by
    refine⟨T.keep _ _ _ st5 λb j o e=>(I'.pin (b,o) (zS _ (zS _ (qL j e)))).1,λb j=>?_⟩;obtain⟨o,e,d⟩:=T.obj _ _ st5 b j;exact(I'.pin (b,o) (zS _ (zS _ (qL j e)))).2.1
   cases b with
   |false =>
    rw[if_neg zh] at q7 ⊢;obtain⟨m',hm,w7⟩:=hN _ _ _ q7;obtain⟨a,b⟩:=keepT I7;exact⟨m',hm,i+1,ys,f,k,σ6,H7,I7.unpinned,a,b,hv,w7⟩
   |true =>
    rw[if_pos rfl] at q7 ⊢
    refine thn (he _ _ _ _ _ s7 σ6 H7 _ I7 q7) λv s8 ⟨y,H8,I8,r8,q8⟩=>?_
    obtain⟨m',hm,w8⟩:=hN _ _ _ q8;obtain⟨a,b⟩:=keepT I8;obtain⟨hd8,hn8,_⟩:=I8.pin (s2.heap.objs.size,{cls:=.type "list",data:=.seq f k}) (by simp[cF]);dsimp only at hd8 hn8
    have hl:f.size<=sizeLine:=by
     have e:=hv.length;simp at e;omega
    refine wpAny_list_append_plain (hsz:=hl) ⟨k,hd8⟩ λh9 hl9 hs9=>?_
    obtain⟨k9,hd9⟩:=hl9
    have I8':Inv (cF X scope B.objs.size (bM N0 own cap) s2 H2 fp) [] σ6 H8 s8:=I8.pins_of λp hp=>absurd hp (by simp)
    have I9:Inv (cF X scope B.objs.size (bM N0 own cap) s2 H2 fp) [] σ6 H8 {s8 with heap:=h9}:=
     I8'.turned (t':=s8.toks) (it:=s2.heap.objs.size) (λb o j e=>hs9.extBut b o j e) hn8 hDC (.inr (zc _)) notcell (λp hp=>absurd (show p∈([]:List (Addr×Obj)) from hp) (by simp))
    refine⟨m',hm,i+1,ys++[y],f.push v,k9,σ6,H8,pinD I9 hn8 hd9,T.keep _ _ _ a λb j o e=>hs9.extBut b o (hDno b j).symm e,b,?_,w8⟩;rw[Array.toList_push];exact hv.append (.cons r8 .nil)
 exact codeAny_compStart_list (loop _ rfl) (T.self _ 0 _ _ _ st₁ (loop _ rfl))
theorem RD{u:TI}(sc0:Scope)(N0 own:List Str)(cap:List Nat)(W:X.calm=true)(P:PI X tg iter u)
  (R:∀C s H ex,PG (cF X scope C (bM N0 own cap) s H ex) tg g) (G:∀C s H ex,jQ (cF X scope C (bM N0 own cap) s H ex) ifs tt) (U:∀C s H ex,PE (cF X scope C (bM N0 own cap) s H ex) elt te)
  (a:X.env.scope=sc0:=by rfl) (j:X.N=N0:=by rfl) (ok:mK sc0 N0 scope own cap=true:=by decide +kernel) (L:∀x,foldedSetIterable iter X.env x=pure x:=by intro _;rfl):
  PE X (.ListComp elt [⟨tg,iter,ifs,0⟩] scope pos) (vL u own cap g tt te):=by
 intro pins s σ H Q I h;have ok:=jr.of ok;rw[eval_ListComp];refine wpAny_comprehension_free (use:=none) rfl L (Ec (vM I a ok)) ok.kind ok.names (thn (P pins s σ H _ I h) λxv s1 h1=>thn h1 λitv s2 h2=>?_);obtain⟨it,fp,tn,J,H2,e,I2,T,c,f2,Z⟩:=h2;subst e
 refine Eg (RR:=λn C=>compPost (model X.prog X.w) X.A X.xe none (EP X pins σ Q) n C) W I2 a j ok R G U T c f2 Z (λD C F r B E y f l hD q=>?_) λr B q=>q.1
 obtain⟨hC,hCn,_⟩:=y.pin (C,F) (by simp);obtain⟨m,O⟩:=f _ hC;refine⟨m,O,λh' d=>⟨.ref D,upd B D (.lst r),?_,rfl,q.2 D hD⟩⟩;obtain⟨f0,f1,f2',f3,f4,f5⟩:=l;exact y.unpinned.turned (t':=E.toks) (it:=C) (λb o Y e=>d.extBut b o Y e) f0 f1 f3 f4 f5
theorem RG{L:TI}{i:Nat}{x:Str}{pos' a:Pos}(sc0:Scope)(N0 own:List Str)(cap:List Nat)(hN:X.N.Nodup)(R:X.N[i]?=some x)(hl:Loc X.env.scope x)(hc:X.calm=true)(hi:PI X tg iter L)
  (hg:∀C s H ex,PG (cF X scope C (bM N0 own cap) s H ex) tg g) (U:∀C s H ex,jQ (cF X scope C (bM N0 own cap) s H ex) ifs tt) (he:∀C s H ex,PE (cF X scope C (bM N0 own cap) s H ex) elt te)
  (r:swapsWith (.ListComp elt [⟨tg,iter,ifs,0⟩] scope pos) (some (.Name x pos')) a.line X.env=pure true:=by rfl)
  (hf:X.fn x=true\/X.env.scope.names.lookup x=some .local:=by first | exact .inl rfl | exact .inr rfl | assumption)
  (f:X.env.scope=sc0:=by rfl) (B:X.N=N0:=by rfl) (ok:mK sc0 N0 scope own cap=true:=by decide +kernel) (W:∀x,foldedSetIterable iter X.env x=pure x:=by intro _;rfl):
  PS X (.Assign [.Name x pos'] (.ListComp elt [⟨tg,iter,ifs,0⟩] scope pos) a) (qK (vL L own cap g tt te) (oG i)):=by
 intro pins s σ H D I h;have ok:=jr.of ok;rw[exec_Assign_Name_used _ _ _ _ r];refine za (wpAny_standAt (za ?_));show wpAny _ X.A (do let _ <-comprehension (.ListComp elt [⟨tg,iter,ifs,0⟩] scope pos) scope X.env _ (newList []) false (eval iter X.env) (some (assign (.Name x pos') X.env))) _ _ s
 refine za (zM (wpAny_comprehension_free (use:=some (assign (.Name x pos') X.env)) (Q:=λ_ c=>SP X pins D .next c) rfl W (Ec (vM I f ok)) ok.kind ok.names
  (thn (hi pins s σ H _ I h) λxv s1 h1=>thn h1 λitv s2 h2=>?_)) (λ_ c Y=>zb (zb Y)) λ_ _ e=>e)
 obtain⟨it,fp,tn,J,H2,e,I2,T,l,f2,hW⟩:=h2;subst e
 refine Eg (RR:=λF C=>compPost (model X.prog X.w) X.A X.xe (some (assign (.Name x pos') X.env)) (λ_ c=>SP X pins D .next c) F C) hc I2 f B ok hg U he T l f2 hW (λd C P G O c I' y E hD q=>?_) λG O q=>q.1
 show wpAny _ X.A (assign (.Name x pos') X.env (.ref d)) _ _ _;refine wpAny_assign_Name (uY (v:=.ref d) I' hN R hl rfl (λn j=>?_) hf);obtain⟨hC,hCn,_⟩:=j.pin (C,P) (by simp);obtain⟨m,Z⟩:=y _ hC;refine⟨m,Z,λh' u=>⟨σ.set i (some (.ref d)),upd O d (.lst G),?_,q.2 d hD⟩⟩;obtain⟨f0,f1,f2',f3,f4,f5⟩:=E;exact j.unpinned.turned (t':=n.toks) (it:=C) (λb o hb e=>u.extBut b o hb e) f0 f1 f3 f4 f5
end
def Can(P:Program)(w:World)(K:PySem.W.Frag)(mg:Str->Option Value)(base:Heap)(x:Str)(ps:List Str)(k:Nat)(sp:Sp):Prop :=
 ∃f fd,mg x=some (.ref f)/\PySem.W.keepIn K (.ref f)=true/\Binds K fd ps []/\cj P w K mg base CX0 k f fd ps sp/\∃d c a,K.lookup f=some ⟨d,c,.func fd,a⟩
def Def(K:PySem.W.Frag)(mg:Str->Option Value)(x:Str)(st:Stmt):Prop:=∃f fd,mg x=some (.ref f)/\Fun K x x st f fd
section
variable {P:Program}{w:World}{K:PySem.W.Frag}{mg:Str->Option Value}{base:Heap}
theorem Can.mono{x:Str}{ps:List Str}{j k:Nat}{sp:Sp}(c:Can P w K mg base x ps j sp)(h:j<=k):Can P w K mg base x ps k sp :=
 let ⟨f,fd,a,b,d,e,g⟩:=c;⟨f,fd,a,b,d,e.mono h,g⟩
theorem Def.can{x:Str}{st:Stmt}{N ps:List Str}{k:Nat}{sp:Sp}(D:Def K mg x st)(S:bQ N ps (aX st))
  (q:∀(kV g pm:Value) (r:Option Addr) (a ct:Value) (us:List Value),us.length=ps.length->bindArgs (PySem.W.fnOf x x (fc st) (di st) (aX st) .none kV g pm r a ct) ⟨us,[]⟩=pure (ps.zip us))
  (len:∀vs H Q E,sp vs H Q E->vs.length=ps.length)
  (c:∀(f:Addr) (a:Value) (A:Around) (outer:List Env) (s:Shared) (H:Hp) (vs:List V) (Q:VK) (E:XK),bj k (A.deeper (envOfC x (aX st) s.heap.objs.size f a))->sp vs H Q E ->
   ∃t,PSs (f9 CX0 P w K mg base N x (aX st) f a A outer s H E).nox (di st) t/\t {nx:=λ_ u=>Q .non u,rt:=Q} (start N vs) H):Can P w K mg base x ps (k+1) sp:=by
 obtain⟨f,fd,n,F⟩:=D;obtain⟨l,j,_,_,_,_,_,_,d,_,lk,_⟩:=F.ex;exact⟨f,fd,n,F.kp,F.binds q,F.ok S len λa A outer s H vs Q E m h=>c f a A outer s H vs Q E m h,l,j,d,lk⟩
end
section
variable {X:Cx}{k:Nat}{x:Str}{ps:List Str}{sp:Sp}{p pos:Pos}{e:Expr}{es:List Expr}{t:TA}
theorem RJ(C:Can X.prog X.w X.K X.mg X.base x ps k sp)(d:bj k X.A)(q:PA X (e::es) t)(l:Gl X x:=by rfl)(c:(x == ("__debug__":Str))=false:=by decide)
  (m:starEach (e::es) X.env=(false,eval e X.env)::starEach es X.env:=by rfl) (a:(backTo pos (starEach es X.env)).any (·.1)=false:=by rfl):
  PE X (.Call (.Name x p) (e::es) [] pos) (oK sp [] E0 t):=by
 obtain⟨f,fd,g,j,n,F,_⟩:=C;exact Qp F d l g j n .nil oM q c m a
theorem RK(C:Can X.prog X.w X.K X.mg X.base x ps k sp)(c:bj k X.A)(j:Gl X x:=by rfl)(a:(x == ("__debug__":Str))=false:=by decide):
  PE X (.Call (.Name x p) [] [] pos) (oK sp [] E0 qM):=by
 obtain⟨f,fd,d,g,l,F,_⟩:=C;exact Qq F c j d g l .nil oM a
end
theorem Same.seqT{K:PySem.W.Frag}{H c:Hp}{a:Addr}{xs:List V}(e:Same H c)(h:SqT K H a xs):SqT K c a xs:=by
 rcases h with(h | ⟨o,h⟩) | h
 ·exact .inl (.inl (e _ _ h))
 ·exact .inl (.inr ⟨o,e _ _ h⟩)
 ·exact .inr h
theorem Same.upd{H:Hp}{a:Addr}{o:HO}(h:H a=none):Same H (upd H a o):=λb u e=>by rw[aL (cz e h)];exact e
mutual
def Rep(K:PySem.W.Frag)(H:Hp):V->PyData->Prop
 |v,.none=>v=.non
 |v,.bool b=>v=.bl b
 |v,.int i=>v=.int i
 |v,.str x=>v=.str x
 |v,.list ds=>∃a c,v=.ref a/\SqL K H a c/\aU K H c ds
 |v,.tuple ds=>∃a c,v=.ref a/\SqT K H a c/\aU K H c ds
 | _,.dict _=>False
def aU(K:PySem.W.Frag)(H:Hp):List V->List PyData->Prop
 |xs,[]=>xs=[]
 |xs,d::ds=>∃x r,xs=x::r/\Rep K H x d/\aU K H r ds
end
mutual
theorem Rep.mono{K:PySem.W.Frag}{H f:Hp}(e:Same H f):∀(d:PyData) {v:V},Rep K H v d->Rep K f v d
 | .none,v,h=>by rw[Rep] at h ⊢;exact h
 | .bool b,v,h=>by rw[Rep] at h ⊢;exact h
 | .int i,v,h=>by rw[Rep] at h ⊢;exact h
 | .str x,v,h=>by rw[Rep] at h ⊢;exact h
 | .list ds,v,h=>by
  rw[Rep] at h ⊢;obtain⟨a,c,h1,h2,h3⟩:=h;exact⟨a,c,h1,e.seq h2,aU.mono e ds h3⟩
 | .tuple ds,v,h=>by
  rw[Rep] at h ⊢;obtain⟨a,c,h1,h2,h3⟩:=h;exact⟨a,c,h1,e.seqT h2,aU.mono e ds h3⟩
 | .dict _,v,h=>by rw[Rep] at h;exact h.elim
theorem aU.mono{K:PySem.W.Frag}{H a:Hp}(e:Same H a):∀(ds:List PyData) {xs:List V},aU K H xs ds->aU K a xs ds
 | [],xs,h=>by rw[aU] at h ⊢;exact h
 |d::ds,xs,h=>by
  rw[aU] at h ⊢;obtain⟨x,r,h1,h2,h3⟩:=h;exact⟨x,r,h1,Rep.mono e d h2,aU.mono e ds h3⟩
end
theorem aU.nil{K:PySem.W.Frag}{H:Hp}:aU K H [] []:=by rw[aU]
theorem aU.cons{K:PySem.W.Frag}{H:Hp}{x:V}{xs:List V}{d:PyData}{ds:List PyData}(h:Rep K H x d)(hs:aU K H xs ds):aU K H (x::xs) (d::ds):=by
 rw[aU];exact⟨x,xs,rfl,h,hs⟩
theorem aU.un{K:PySem.W.Frag}{H:Hp}{xs:List V}{d:PyData}{ds:List PyData}(h:aU K H xs (d::ds)):∃x r,xs=x::r/\Rep K H x d/\aU K H r ds:=by rw[aU] at h;exact h
theorem aU.un0{K:PySem.W.Frag}{H:Hp}{xs:List V}(h:aU K H xs []):xs=[]:=by rw[aU] at h;exact h
theorem Rep.unL{K:PySem.W.Frag}{H:Hp}{v:V}{ds:List PyData}(h:Rep K H v (.list ds)):∃a xs,v=.ref a/\SqL K H a xs/\aU K H xs ds:=by rw[Rep] at h;exact h
theorem Rep.unT{K:PySem.W.Frag}{H:Hp}{v:V}{ds:List PyData}(h:Rep K H v (.tuple ds)):∃a xs,v=.ref a/\SqT K H a xs/\aU K H xs ds:=by rw[Rep] at h;exact h
theorem Rep.unS{K:PySem.W.Frag}{H:Hp}{v:V}{x:Str}(h:Rep K H v (.str x)):v=.str x:=by rw[Rep] at h;exact h
theorem Rep.unI{K:PySem.W.Frag}{H:Hp}{v:V}{x:Int}(h:Rep K H v (.int x)):v=.int x:=by rw[Rep] at h;exact h
theorem Rep.s{K:PySem.W.Frag}{H:Hp}{x:Str}:Rep K H (.str x) (.str x):=by rw[Rep]
theorem Rep.i{K:PySem.W.Frag}{H:Hp}{x:Int}:Rep K H (.int x) (.int x):=by rw[Rep]
theorem Rep.b{K:PySem.W.Frag}{H:Hp}{x:Bool}:Rep K H (.bl x) (.bool x):=by rw[Rep]
theorem aU.length{K:PySem.W.Frag}{H:Hp}:∀{ds:List PyData}{xs:List V},aU K H xs ds->xs.length=ds.length
 | [],xs,h=>by rw[aU] at h;rw[h];rfl
 |d::ds,xs,h=>by
  rw[aU] at h;obtain⟨x,r,rfl,_,h3⟩:=h;simp[aU.length h3]
theorem aU.get{K:PySem.W.Frag}{H:Hp}:∀{ds:List PyData}{xs:List V}{i:Nat}{x:V},aU K H xs ds->xs[i]?=some x->∃d,ds[i]?=some d/\Rep K H x d
 | [],xs,i,x,h,e=>by rw[aU] at h;rw[h] at e;simp at e
 |d::ds,xs,i,x,h,e=>by
  rw[aU] at h;obtain⟨y,r,rfl,h2,h3⟩:=h
  cases i with
  |zero=>simp at e;subst e;exact⟨d,rfl,h2⟩
  |succ i =>
   obtain⟨c,a,q⟩:=aU.get (i:=i) (x:=x) h3 (by simpa using e);exact⟨c,by simpa using a,q⟩
theorem aU.snoc{K:PySem.W.Frag}{H:Hp}{x:V}{d:PyData}(a:Rep K H x d):∀{ds:List PyData}{xs:List V},aU K H xs ds->aU K H (xs++[x]) (ds++[d])
 | [],xs,h=>by rw[aU] at h;rw[h];exact aU.cons a aU.nil
 |e::ds,xs,h=>by
  rw[aU] at h;obtain⟨y,r,rfl,h2,h3⟩:=h;exact aU.cons h2 (aU.snoc a h3)
theorem aU.append{K:PySem.W.Frag}{H:Hp}{ys:List V}{es:List PyData}(a:aU K H ys es):∀{ds:List PyData}{xs:List V},aU K H xs ds->aU K H (xs++ys) (ds++es)
 | [],xs,h=>by rw[aU] at h;rw[h];exact a
 |e::ds,xs,h=>by
  rw[aU] at h;obtain⟨y,r,rfl,h2,h3⟩:=h;exact aU.cons h2 (aU.append a h3)
theorem aU.take{K:PySem.W.Frag}{H:Hp}:∀{ds:List PyData}{xs:List V} (n:Nat),aU K H xs ds->aU K H (xs.take n) (ds.take n)
 | _,_,0,_=>by simpa using aU.nil
 | [],xs,n+1,h=>by rw[aU] at h;rw[h];simpa using aU.nil
 |d::ds,xs,n+1,h=>by
  rw[aU] at h;obtain⟨y,r,rfl,h2,h3⟩:=h;exact aU.cons h2 (aU.take n h3)
theorem aU.drop{K:PySem.W.Frag}{H:Hp}:∀{ds:List PyData}{xs:List V} (n:Nat),aU K H xs ds->aU K H (xs.drop n) (ds.drop n)
 | _,_,0,h=>by simpa using h
 | [],xs,n+1,h=>by rw[aU] at h;rw[h];simpa using aU.nil
 |d::ds,xs,n+1,h=>by
  rw[aU] at h;obtain⟨y,r,rfl,h2,h3⟩:=h;exact aU.drop n h3
section
variable {X:Cx}{pins:List (Addr×Obj)}{σ:St}{H:Hp}{s:Shared}
mutual
theorem Rep.reads(I:Inv X pins σ H s):∀(d:PyData) {v:V}{u:Value},Rep X.K H v d->RelV v u->∃j,Reads s.heap u d j
 | .none,v,u,h,r=>by rw[Rep] at h;subst h;cases(show u=.none from r);exact⟨_,.none⟩
 | .bool b,v,u,h,r=>by rw[Rep] at h;subst h;cases(show u=.bool b from r);exact⟨_,.bool b⟩
 | .int i,v,u,h,r=>by rw[Rep] at h;subst h;obtain⟨t,rfl⟩:=(show ∃t,u=.int i t from r);exact⟨_,.int i t⟩
 | .str x,v,u,h,r=>by rw[Rep] at h;subst h;obtain⟨t,rfl⟩:=(show ∃t,u=.str x t from r);exact⟨_,.str x t⟩
 | .list ds,v,u,h,r=>by
  rw[Rep] at h;obtain⟨a,m,rfl,h2,h3⟩:=h;cases(show u=.ref a from r);obtain⟨l,rv,c,_⟩:=I.list h2;obtain⟨j,q⟩:=aU.reads I ds h3 rv;obtain⟨o,f,g,n,hd⟩:=c.isList;exact⟨_,.list f g hd (by simpa using q)⟩
 | .tuple ds,v,u,h,r=>by
  rw[Rep] at h;obtain⟨a,m,rfl,h2,h3⟩:=h;cases(show u=.ref a from r);obtain⟨l,rv,c,_⟩:=I.tuple h2;obtain⟨j,q⟩:=aU.reads I ds h3 rv;obtain⟨o,f,g,n,hd⟩:=c;exact⟨_,.tuple f g hd (by simpa using q)⟩
 | .dict _,v,u,h,r=>by rw[Rep] at h;exact h.elim
theorem aU.reads(I:Inv X pins σ H s):∀(ds:List PyData) {xs:List V}{us:List Value},aU X.K H xs ds->aN xs us->∃a,ReadsAll s.heap us ds a
 | [],xs,us,h,r=>by rw[aU] at h;subst h;cases r;exact⟨_,.nil⟩
 |d::ds,xs,us,h,r=>by
  rw[aU] at h;obtain⟨x,rest,rfl,h2,h3⟩:=h
  cases r with
  |cons r1 r2 =>
   obtain⟨a,q⟩:=Rep.reads I d h2 r1;obtain⟨bs,c⟩:=aU.reads I ds h3 r2;exact⟨_,.cons q c⟩
end
end
def okD(d:PyData):Bool:=d.canLay0&&decide (d.depth<=60)
def Eh(K:PySem.W.Frag)(a:Bool):R2:=λx y H Q=>∃d e,Rep K H x d/\Rep K H y e/\okD d=true/\okD e=true/\Q (.bl (if a then !PyData.eqv d e else PyData.eqv d e)) H
section
variable {X:Cx}
theorem RL{k:Nat}(m:bj k X.A):OpR X (compareOp .Eq) (Eh X.K false):=by
 intro pins s σ H x y v u Q I g f h;obtain⟨d,e,h1,h2,c,a,q⟩:=h;obtain⟨n,l⟩:=Rep.reads I d h1 g;obtain⟨bs,j⟩:=Rep.reads I e h2 f;unfold okD at c a;simp only[zm,decide_eq_true_eq] at c a;exact SeqAt.compareEq_reads l j c.1 a.1 (by have:=m.units;omega) ⟨.bl _,H,I,rfl,q⟩
theorem RM{k:Nat}(m:bj k X.A):OpR X (compareOp .NotEq) (Eh X.K true):=by
 intro pins s σ H x y v u Q I g f h;obtain⟨d,e,h1,h2,c,a,q⟩:=h;obtain⟨n,l⟩:=Rep.reads I d h1 g;obtain⟨bs,j⟩:=Rep.reads I e h2 f;unfold okD at c a;simp only[zm,decide_eq_true_eq] at c a;exact SeqAt.compareNe_reads l j c.1 a.1 (by have:=m.units;omega) ⟨.bl _,H,I,rfl,q⟩
end
def S(l:List Nat):Str:=⟨l.toArray⟩
theorem lz(l:List Nat):(S l).cps.toList=l:=by simp[S]
theorem eG(l:List Nat):(S l).length=l.length:=by simp[S,Str.length]
theorem RN(x:Str):S x.cps.toList=x:=by cases x;simp[S]
theorem RP(a b:List Nat):S a++S b=S (a++b):=by
 show Str.mk _=Str.mk _;simp[S]
theorem lA{a b:List Nat}(h:S a=S b):a=b:=by have:=congrArg (λx:Str=>x.cps.toList) h;simpa [lz] using this
section
variable {X:Cx}
theorem RQ:OpR X (compareOp .In) (λx y H Q=>∃c l,x=.str (S [c])/\y=.str (S l)/\Q (.bl (decide (c∈l))) H):=by
 intro pins s σ H x y v u Q I d a h;obtain⟨c,l,rfl,rfl,q⟩:=h;refine Pq pins s σ H _ _ v u Q I d a ⟨S [c],S l,rfl,rfl,?_⟩;have e:=PySem.StrLaws.found_one (S l) c;rw[lz] at e;show Q (.bl (!(Builtin.Str.occurrences (S l) (S [c]) 0 (S l).length 1).isEmpty)) H;rw[show S [c]=⟨#[c]⟩ from rfl,e];exact q
def Its(l:List Nat):It:=⟨λi _=>i<l.length,λi H x a=>a=H/\∃c,l[i]?=some c/\x=.str (S [c]),λi _=>l.length<=i⟩
theorem RT{P:Program}{w:World}{K:PySem.W.Frag}{tg:Expr}(l:List Nat)(it:Addr)(t:Tok):Turn P w K tg (Its l) [it] it (λi h=>h.IsStrIter it "str_ascii_iterator" (S l) t i) where
 mem:=by simp
 obj:=λi h st b hb=>by
  have e:b=it:=by simpa using hb
  subst e;obtain⟨o,e,c,d⟩:=st;exact⟨o,e,λv z=>by rw[d] at z;cases z⟩
 keep:=λi h h' st k=>let ⟨o,ho,r⟩:=st;⟨o,k it (by simp) o ho,r⟩
 item:=by
  intro X hP hw hK hc i pins s σ H E I hf st hg;subst hP hw hK;obtain⟨f0,f1,f2,f3,f4,f5⟩:=hf it (by simp);have hg':i<l.length:=hg
  refine wpAny_pyNext_ascii_item st (c:=l[i]) (by simp[S,hg']) λh' st' sb=>?_
  have I1:Inv X pins σ H {s with heap:=h',toks:=s.toks+1}:=I.turned (λb o hb e=>(sb.2 b hb).trans e) f0 f1 f3 f4 f5;obtain⟨o,e,c,d⟩:=id st';exact⟨_,rfl,mH (s:={s with heap:=h',toks:=s.toks+1}) e c d (by decide) ⟨.str (S [l[i]]),H,I1,⟨_,rfl⟩,⟨rfl,l[i],by simp[hg'],rfl⟩,st',λb hb=>(hf b hb).1⟩⟩
 done:=by
  intro X hP hw hK hc i pins s σ H E I hf st hg;subst hP hw hK;obtain⟨f0,f1,f2,f3,f4,f5⟩:=hf it (by simp);have hg':l.length<=i:=hg
  exact wpAny_pyNext_ascii_end (I.ok.hd hc) st (by simp[S,hg']) λh' eb=>⟨rfl,I.turned (t':=s.toks) (λb o hb e=>eb b o hb e) f0 f1 f3 f4 f5⟩
 self:=λ_ _ _ _ _ st h=>wpAny_pyIter_striter_ascii st h
def ascii(l:List Nat):Bool:=l.all (· < 128)
def RV(tl:TE):TI:=λσ H R=>tl σ H λx a=>∃l,x=.str (S l)/\ascii l=true/\R (Its l) a
theorem RW{a e:Expr}{tl:TE}(c:PE X e tl):PI X a e (RV tl):=by
 intro pins s σ H R I h
 refine thn (c pins s σ H _ I h) λv s1 ⟨x,H1,I1,r1,q1⟩=>?_
 obtain⟨l,e,f,q⟩:=q1;subst e;obtain⟨t,rfl⟩:=r1;refine wpAny_pyIter_ascii (by simpa [S,ascii] using f) ?_;refine⟨s1.heap.objs.size,[s1.heap.objs.size],_,_,H1,rfl,I1.kept (t':=s1.toks) λb o e=>zl _ e,RT l _ t,⟨_,zx _ rfl,rfl,rfl⟩,λb d=>?_,q⟩
 have e:b=s1.heap.objs.size:=by simpa using d
 subst e;exact I1.fpOk (zc _) (I1.hok.fresh (zc _))
theorem RX(P:X.calm=true):iY X (.builtin "sum") (λxs H Q=>∃(a:Addr) (ns:List Int),xs=[.ref a]/\SqL X.K H a (ns.map V.int)/\(∀n∈ns,0<=n/\n<=1000000)/\ns.length<=1000000/\Q (.int ns.sum) H):=by
 intro pins s σ H xs W Q I r h;obtain⟨a,ns,rfl,R,C,U,q⟩:=h;obtain⟨u,rfl,f⟩:=vals1 r;cases f;obtain⟨c,rv,p,Y⟩:=I.list R;have m:a≠s.heap.objs.size:=zo (zk p.isList.choose_spec.1)
 have L:c.length=ns.length:=by have:=rv.length;rw[zf] at this;exact this.symm
 have pre:∀j,j<=ns.length->preSum (λi=>ns.getD i 0) j=(ns.take j).sum/\0<=preSum (λi=>ns.getD i 0) j/\preSum (λi=>ns.getD i 0) j<=(j:Int) * 1000000:=by
  intro j
  induction j with
  |zero=>intro _;simp[preSum]
  |succ j ih =>
   intro B;obtain⟨e,G,F⟩:=ih (by omega)
   have hj':j<ns.length:=by omega
   have J:=C ns[j] (ji hj')
   have g:ns.getD j 0=ns[j]:=by rw[je,zu hj'];rfl
   have T:preSum (λi=>ns.getD i 0) (j+1)=preSum (λi=>ns.getD i 0) j+ns[j]:=by
    rw[<-g];rfl
   refine⟨?_,by omega,by omega⟩;rw[T,e,List.take_succ_eq_append_getElem hj',List.sum_append];simp
 refine call_sum_walk (wpAny_pyIter_list p.isList ?_)
 refine⟨s.heap.objs.size,_,_,c.toArray.size,_,_,λi=>ns.getD i 0,rfl,Walks.list (A:=X.A.in1) (I.ok.hd P) s.heap.objs.size a m c.toArray,
  ⟨⟨_,zx _ rfl,rfl,rfl⟩,p.isList.at λo e=>zl _ e⟩,λb d=>?_,λi v x=>?_,λj B=>?_,λh' tk E O=>?_⟩
 ·have l:({s with heap:=s.heap.push {cls:=.type "list_iterator",data:=.fields #[.ref a,.int 0 0]}}:Shared).heap.objs.size=s.heap.objs.size+1:=Heap.size_push ..;rw[l]
  have z:b=s.heap.objs.size\/b=a:=by simpa using d
  have ha':a<s.heap.objs.size:=zk p.isList.choose_spec.1
  rcases z with z | z
  ·rw[z];exact zZ _
  ·rw[z];exact jf ha'
 ·have Z:i<c.length:=by
   have z:=Array.getElem?_eq_some_iff.mp x;simpa using z.1
  have d:(ns.map V.int)[i]?=some (V.int (ns.getD i 0)):=by
   rw[zD,zu (by omega),je,zu (by omega)];rfl
  obtain⟨u,y,f⟩:=rv.get d
  have hv':c[i]?=some v:=by simpa using x
  rw[hv'] at y;cases y;exact f
 ·rw[zA] at B
  have hj':j<ns.length:=by omega
  have J:=C ns[j] (ji hj')
  have g:ns.getD j 0=ns[j]:=by rw[je,zu hj'];rfl
  obtain⟨_,G,F⟩:=pre (j+1) (by omega);unfold InLong;dsimp only;rw[g]
  constructor<;>constructor<;>omega
 ·obtain⟨e,_,_⟩:=pre ns.length (zc _);rw[List.take_length] at e;refine⟨.int ns.sum,H,I.kept λb o e=>O b o (λz=>?_) (zl _ e),⟨E,?_⟩,q⟩
  ·have z':b=s.heap.objs.size:=by simpa using z
   exact absurd (zk e) (by rw[z'];exact zY _)
  ·rw[zA,L,e]
end
structure Blt(mg:Str->Option Value):Prop where
 len_:mg "len" = none
 isinstance_:mg "isinstance" = none
 all_:mg "all" = none
 sum_:mg "sum" = none
 max_:mg "max" = none
 min_:mg "min" = none
 int_:mg "int" = none
 str_:mg "str" = none
 bool_:mg "bool" = none
 list_:mg "list" = none
 tuple_:mg "tuple" = none
 dict_:mg "dict" = none
 range_:mg "range" = none
 enumerate_:mg "enumerate" = none
 zip_:mg "zip" = none
section
variable {X:Cx}
theorem Ei{x:Str}{v:V}{a:Pos}(h:∃u,X.mg x=some u/\RelV v u)(d:Gl X x:=by rfl)(hd:(x == ("__debug__":Str))=false:=by decide):PE X (.Name x a) (tC v):=by
 obtain⟨u,c,r⟩:=h;exact M7 d c r hd
end
def dj{α:Type}(l:List α)(lo a:Option Int):List α:=(l.drop (HT.sIx l.length 0 lo)).take (HT.sIx l.length l.length a - HT.sIx l.length 0 lo)
theorem Ej(l:List Nat)(lo a:Option Int):Txt.slice (S l) lo a=S (dj l lo a):=by
 obtain⟨h1,h2,h3⟩:=Dy lo a l.length
 have e:Builtin.Str.strSliceIndices lo a 1 (S l).length=(List.range (HT.sIx l.length l.length a - HT.sIx l.length 0 lo)).map (HT.sIx l.length 0 lo + ·):=by
  rw[eG];show sliceRange (sliceBounds lo a none l.length).1 (sliceBounds lo a none l.length).2.1 (sliceBounds lo a none l.length).2.2=_;rw[h1,h2,h3,sliceRange_one]
 unfold Txt.slice;rw[e,pick_run,lz]
 split
 ·rename_i h
  have f:HT.sIx l.length l.length a - HT.sIx l.length 0 lo=l.length:=by simpa [eG] using h
  have d:HT.sIx l.length l.length a<=l.length:=HT.sIx_le _ _ (zc _) a;have c:HT.sIx l.length 0 lo<=l.length:=HT.sIx_le _ _ (Nat.zero_le _) lo
  have h0:HT.sIx l.length 0 lo=0:=by omega
  have h1:HT.sIx l.length l.length a=l.length:=by omega
  unfold dj;rw[h0,h1];simp
 ·rfl
section
variable {X:Cx}
def RZ:V->Option Int->Option Int->Hp->VK->Prop:=λx lo a H Q=>∃l,x=.str (S l)/\l.length<=sizeLine/\Q (.str (S (dj l lo a))) H
theorem part_of{v:Value}{o:Option Int}(p:IsPart v o):∃q:Option (Int×Tok),v=partValue q/\q.map (·.1)=o:=by
 cases p with
 |none=>exact⟨none,rfl,rfl⟩
 |int i t=>exact⟨some (i,t),rfl,rfl⟩
theorem R0:SlR X RZ:=by
 intro pins s σ H x v vl E lo a sl Q I f y n m h;obtain⟨l,rfl,r,q⟩:=h;obtain⟨t,rfl⟩:=f;obtain⟨j,rfl,C⟩:=part_of n;obtain⟨g,rfl,B⟩:=part_of m;refine⟨"str",_,F.slot_str_getitem.lookup,typeIs_str _ _ _,?_⟩;refine wpAny_getItem_str_slice (l:=j) (u:=g) (st:=none) y rfl ?_;have key:(if((1:Int) == 1&&(Builtin.Str.strSliceIndices lo a 1 (S l).length).length == (S l).length)=true then S l else⟨((Builtin.Str.strSliceIndices lo a 1 (S l).length).filterMap ((S l).cps[·]?)).toArray⟩)=S (dj l lo a):=Ej l lo a;unfold sliceMade slicePicked;rw[C,B];refine post_val_or_str ⟨?_,λc k=>?_⟩
 ·show(Txt.slice (S l) lo a).length<=_;exact zG (Txt.slice_le _ _ _) (by rw[eG];exact r)
 ·have d:=Ej l lo a;unfold Txt.slice at d;show EP X pins σ Q (.str (if((1:Int) == 1&&(Builtin.Str.strSliceIndices lo a 1 (S l).length).length == (S l).length)=true then S l else⟨((Builtin.Str.strSliceIndices lo a 1 (S l).length).filterMap ((S l).cps[·]?)).toArray⟩) c) {s with toks:=k};rw[d];exact⟨.str _,H,I.tok k,⟨c,rfl⟩,q⟩
end
namespace HT2
theorem getItem_tuple_whole{prog:Program}{w:World}{A:Around}{E:Value->Shared->Prop}{s:Shared}{t sl:Addr}{items:Array Value}{vl n:Value}{lo d:Option Int}{Q:Value->Shared->Prop}(a:IsTup s.heap t items)(hs:s.heap.IsSliceOf sl vl n .none)(pl:IsPart vl lo)(x:IsPart n d)
  (q:HT.sIx items.size 0 lo=0/\HT.sIx items.size items.size d=items.size) (h:Q (.ref t) s):wpAny (model prog w) A (getItem (.ref t) (.ref sl)) Q E s:=by
 obtain⟨os,g,l,y⟩:=id hs;have m:s.TypeIs (.ref sl) "slice":=⟨os,g,l⟩;unfold getItem
 try with_reducible refine zR ?_
 first | refine za (zb ?_) | skip
 refine za (wpAny_sequenceKey a.typeIs (by decide) ?_)
 refine za (wpAny_callSpecial?_slot (name:=Str.ofString "__getitem__") a.typeIs PyProof.Rows.slot_tuple_getitem
  (wpAny_call_entry PyProof.Rows.slot_tuple_getitem a.typeIs entry_tuple_getitem ?_ (args_tuple_getitem _ _)))
 show wpAny _ _ (Builtin.Tuple.tupleItemsOf (.ref t) >>= _) _ _ s;refine za (tupleItemsOf_ a ?_);refine za (wpAny_typeOf m ?_);rw[if_pos (by decide)];refine za (HT.sliceApplied_gen hs pl x ?_)
 have c:(((HT.sIx items.size 0 lo:Nat):Int) == 0&&(1:Int) == 1&&(HT.sIx items.size items.size d - HT.sIx items.size 0 lo) == items.size)=true:=by
  rw[q.1,q.2];simp
 show wpAny _ _ (if(((HT.sIx items.size 0 lo:Nat):Int) == 0&&(1:Int) == 1&&(HT.sIx items.size items.size d - HT.sIx items.size 0 lo) == items.size)=true then _ else _) _ _ s;rw[if_pos c]
 have j:∀{u:Around}{r:Value->Shared->Prop}{f:Bool->Shared->Prop},f true s->wpAny (model prog w) u (Builtin.Tuple.tupleIsExact (.ref t)) f r s:=λ{u r f} hq=>by
  unfold Builtin.Tuple.tupleIsExact;exact za (wpAny_typeOf a.typeIs (zb hq))
 refine za (j ?_);rw[if_pos rfl];exact za (zW (zb ⟨_,rfl,zb h⟩))
end HT2
section
variable {X:Cx}
def R1(K:PySem.W.Frag):V->Option Int->Option Int->Hp->VK->Prop:=λx lo d H Q=>∃a c,x=.ref a/\SqT K H a c /\
 ((HT.sIx c.length 0 lo=0/\HT.sIx c.length c.length d=c.length)->Q (.ref a) H)/\(¬(HT.sIx c.length 0 lo=0/\HT.sIx c.length c.length d=c.length)->∀p,H p=none->Q (.ref p) (upd H p (.tup (iZ c lo d))))
theorem R3(K:PySem.W.Frag)(E:X.K=K:=by rfl):SlR X (R1 K):=by
 subst E;intro pins s σ H x v vl y lo u sl Q I g q l j h;obtain⟨a,c,rfl,m,C,B⟩:=h
 by_cases d:HT.sIx c.length 0 lo=0/\HT.sIx c.length c.length u=c.length
 ·cases g;obtain⟨f,r,n,F⟩:=I.tuple m
  have hlen:f.toArray.size=c.length:=by rw[zA];exact r.length.symm
  exact⟨"tuple",_,PyProof.Rows.slot_tuple_getitem.lookup,n.typeIs,HT2.getItem_tuple_whole n q l j (by rw[hlen];exact d) ⟨.ref a,H,I,rfl,C d⟩⟩
 ·exact QJ pins s σ H _ v vl y lo u sl Q I g q l j ⟨a,c,rfl,m,d,B d⟩
inductive TyQ (K:PySem.W.Frag) (H:Hp):V->String->Prop where
 | non:TyQ K H .non "NoneType"
 | bl (x:Bool):TyQ K H (.bl x) "bool"
 | int (i:Int):TyQ K H (.int i) "int"
 | str (x:Str):TyQ K H (.str x) "str"
 | lst {a:Addr}{xs:List V} (e:SqL K H a xs):TyQ K H (.ref a) "list"
 | tup {a:Addr}{xs:List V} (e:SqT K H a xs):TyQ K H (.ref a) "tuple"
 | dK {a:Addr}{kvs:List (Key×V)} (e:H a=some (.dK kvs)):TyQ K H (.ref a) "dict"
end
theorem Ek:∀{ds:List PyData},(∀d∈ds,d.canLay0=true)->PyData.canLayAll0 ds=true
 | [],_=>rfl
 |d::ds,h=>by rw[PyData.canLayAll0,h d zg,Ek λx a=>h x (zq _ a)];rfl
theorem El{n:Nat}:∀{ds:List PyData},(∀d∈ds,d.depth<=n)->PyData.depthAll ds<=n
 | [],_=>by rw[PyData.depthAll];exact Nat.zero_le _
 |d::ds,h=>by
  rw[PyData.depthAll];exact Nat.max_le.mpr ⟨h d zg,El λx a=>h x (zq _ a)⟩
theorem R4{n:Nat}(a:n<60){ds:List PyData}(h:∀d∈ds,d.canLay0=true/\d.depth<=n):okD (.list ds)=true:=by
 unfold okD;rw[zm];refine⟨?_,zj ?_⟩
 ·show PyData.canLayAll0 ds=true
  exact Ek λd hd=>(h d hd).1
 ·show PyData.depthAll ds+1<=60
  have:=El λd hd=>(h d hd).2
  omega
section
variable {X:Cx}
theorem Em:∀{ls:List (List Nat)}{us:List Value},aN (ls.map λl=>V.str (S l)) us->StrsAre us (ls.map S)
 | [],us,r=>by rw[zQ] at r;cases r;exact .nil
 |l::ls,us,r=>by
  rw[zd] at r
  cases r with
  |cons r1 r2 =>
   obtain⟨t,e⟩:=r1;subst e;exact .cons _ t (Em r2)
theorem En:∀(ls:List (List Nat)) (a:Array Nat),(ls.map S).foldl (λacc p=>acc++(S []).cps++p.cps) a=a++ls.flatten.toArray
 | [],a=>by simp
 |l::ls,a=>by
  rw[zd,List.foldl_cons,En ls];simp[S]
theorem R5(ls:List (List Nat)):Txt.join (S []) (ls.map S)=S ls.flatten:=by
 show Builtin.Str.glued (S []) (ls.map S)=_;unfold Builtin.Str.glued
 cases ls with
 |nil=>rfl
 |cons l ls =>
  show Str.mk ((ls.map S).foldl (λa p=>a++(S []).cps++p.cps) (S l).cps)=_;rw[En];simp[S]
def rJoin(K:PySem.W.Frag):V->List V->Hp->VK->Prop:=λx a H Q=>∃(p:Addr) (ls:List (List Nat)),x=.str (S [])/\a=[.ref p]/\SqL K H p (ls.map λl=>V.str (S l))/\(ls.map List.length).sum<=1000000/\Q (.str (S ls.flatten)) H
theorem R6(K:PySem.W.Frag)(m:X.K=K:=by rfl):MtR X "str.join" (rJoin K):=by
 subst m;intro pins s σ H x r v y Q I c f h;obtain⟨p,ls,rfl,rfl,j,B,q⟩:=h;obtain⟨t,rfl⟩:=c;obtain⟨u,rfl,d⟩:=vals1 f;cases d;obtain⟨n,rv,g,_⟩:=I.list j
 refine join_list g.isList (ys:=ls.map S) (by simpa using Em rv) ?_ λa k=>⟨.str (S ls.flatten),H,I.tok k,⟨a,?_⟩,q⟩
 ·have e:((ls.map S).map (·.length)).sum=(ls.map List.length).sum:=by
   rw[zL];exact congrArg List.sum (jo λl _=>eG l)
  rw[e,eG];simp only[zT,Nat.mul_zero];omega
 ·rw[R5]
def R7:R2:=λx y H Q=>∃(l:List Nat) (n:Int),x=.str (S l)/\y=.int n/\-1000000<n/\n<1000000/\l.length * n.toNat<=16777216/\Q (.str (S (List.replicate n.toNat l).flatten)) H
theorem Eo(l:List Nat):∀(n:Nat) (a:Array Nat),(List.replicate n (S l).cps).foldl (· ++ ·) a=a++(List.replicate n l).flatten.toArray
 | 0,a=>by simp
 |n+1,a=>by
  rw[List.replicate_succ,List.foldl_cons,Eo l n,List.replicate_succ,List.flatten_cons];simp[S]
theorem R8:OpR X (binaryOp .Mult) R7:=by
 intro pins s σ H x y v u Q I d c h;obtain⟨l,n,rfl,rfl,h1,h2,h3,q⟩:=h;obtain⟨t,rfl⟩:=d;obtain⟨B,rfl⟩:=c;have C:sizeLine=16777216:=sizeLine_eq
 by_cases j:n<1
 ·have r:n.toNat=0:=by omega
  rw[r] at q;exact P.mul_str_none j (by omega) ⟨.str (S []),H,I.tok _,⟨s.toks,rfl⟩,q⟩
 refine P.mul_str ?_ (λ_ _=>?_) (λ_ _=>?_) ?_
 ·rw[ze (by omega),ze (by omega)];rfl
 ·rw[eG];intro f
  have h4:(l.length:Int) * n<=16777216:=by
   have:((l.length * n.toNat:Nat):Int)<=16777216:=by omega
   rw[Int.natCast_mul,Int.toNat_of_nonneg (by omega)] at this;exact this
  have m:(2 ^ 63 - 1) / n<(l.length:Int):=f;have E:=(Int.ediv_lt_iff_lt_mul (show 0<n by omega)).mp m;omega
 ·rw[eG];unfold Builtin.Str.tooLong;exact ze (by omega)
 ·rw[if_neg (by omega)]
  by_cases a:(n == 1 || (S l).length == 0)=true
  ·rw[if_pos a]
   have e:(List.replicate n.toNat l).flatten=l:=by
    rw[Bool.or_eq_true,beq_iff_eq,beq_iff_eq,eG] at a
    rcases a with z | z
    ·rw[z];show(List.replicate 1 l).flatten=l;simp
    ·have z':=List.eq_nil_of_length_eq_zero z;subst z';rw[List.flatten_eq_nil_iff];intro x g;exact(List.mem_replicate.mp g).2
   rw[e] at q;exact⟨.str (S l),H,I,⟨t,rfl⟩,q⟩
  ·rw[if_neg a,Eo];refine⟨?_,.str (S (List.replicate n.toNat l).flatten),H,I.tok _,⟨s.toks,?_⟩,q⟩
   ·show(#[]++(List.replicate n.toNat l).flatten.toArray).size<=sizeLine;simp only[Array.size_append,zA,List.length_flatten,List.map_replicate,List.sum_replicate_nat];simp;rw[Nat.mul_comm];omega
   ·congr 1;simp[S]
end
inductive D where
 | non | bl (b:Bool) | int (i:Int) | str (l:List Nat) | lst (ds:List D) | tup (ds:List D) | dic (ks vs:List D) | ob (n:Nat)
inductive Ob where
 | ins (c:Str) (fs:List (Str×D))
 | ml (ds:List D)
 | dt (kvs:List (List Key×D))
 | df (kvs:List (List Key×D))
 | dk (kvs:List (Key×D))
 | kf (kvs:List (Key×D))
 | xc (c:Str) (fs:List (Str×D))
 | gone
 | dn (kvs:List (NK×D))
 | nf (kvs:List (NK×D))
abbrev aq:=List Ob
abbrev aA:=List (Option D)
structure Xc where
 cls:Str
 fs:List (Str×D)
inductive Res (α:Type) where
 | ok (a:α) (O:aq) | ex (x:Xc) (O:aq) | no
inductive Fl where
 | nx (ρ:aA) (O:aq) | rt (d:D) (O:aq) | bk (ρ:aA) (O:aq) | ct (ρ:aA) (O:aq) | ex (x:Xc) (O:aq) | no
abbrev M(α:Type):=aA->aq->Res α
abbrev MS:=aA->aq->Fl
def Res.bind{α β:Type}(r:Res α)(f:α->aq->Res β):Res β:=match r with
 | .ok a O=>f a O
 | .ex x O=>.ex x O
 | .no=>.no
theorem Res.bind_ok{α β:Type}{r:Res α}{f:α->aq->Res β}{b:β}{c:aq}(h:r.bind f=.ok b c):∃a O,r=.ok a O/\f a O=.ok b c:=by
 cases r with
 |ok a O=>exact⟨a,O,rfl,h⟩
 |ex x O=>cases h
 |no=>cases h
def vO:Expr->Bool
 | .Starred _ _=>false
 | _=>true
theorem dH{e:Expr}{es:List Expr}{env:Env}(h:vO e=true):starEach (e::es) env=(false,eval e env)::starEach es env:=by
 cases e<;>first | rfl | cases h
theorem eH{a:Pos}{env:Env}:∀{es:List Expr},es.all vO=true->(backTo a (starEach es env)).any (·.1)=false
 | [],_=>by simp[starEach,backTo]
 |e::es,h=>by
  rw[List.all_cons,zm] at h;rw[dH h.1];show(false || (backTo a (starEach es env)).any (·.1))=false;rw[eH h.2];rfl
theorem R9{e:Expr}{env:Env}(h:vO e=true):starEach [e] env=[(false,eval e env)]:=by rw[dH h];simp[starEach]
abbrev Frag:=PySem.W.Frag
def jt:Key->D
 | .inl i=>.int i
 | .inr x=>.str x.cps.toList
def RdK(K:Frag)(H:Hp)(a:Addr)(xs:List V):Prop:=Rd H a (.lst xs)\/∃(c:List Value) (n:Nat),K.lookup a=some {cls:=.type "list",data:=.seq c.toArray n}/\c.length<=sizeLine/\aN xs c
theorem RdK.sq{K:Frag}{H:Hp}{a:Addr}{xs:List V}(h:RdK K H a xs):SqL K H a xs:=by
 rcases h with h | ⟨c,n,h1,h2,h3⟩
 ·exact .inl h
 ·exact .inr ⟨_,c.toArray,n,h1,rfl,rfl,rfl,by simpa using h2,by simpa using h3⟩
theorem RdK.ok{X:Cx}{pins:List (Addr×Obj)}{σ:St}{H:Hp}{s:Shared}{a:Addr}{xs:List V}(h:RdK X.K H a xs)(I:Inv X pins σ H s):xs.length<=sizeLine/\∃(its:List Value) (n:Nat),aN xs its/\s.heap.get? a=some {cls:=.type "list",data:=.seq its.toArray n}:=by
 rcases h with h | ⟨its,n,h1,h2,h3⟩
 ·exact h.ok I.hok
 ·exact⟨by rw[h3.length];exact h2,its,n,h3,I.kIn a _ h1⟩
def TqT(K:Frag)(F:Hp)(a:Addr)(xs:List V):Prop :=
 F a=some (.tup xs)\/∃(o:Obj) (c:Array Value) (n:Nat),K.lookup a=some o/\o.cls=.type "tuple"/\o.data=.seq c n/\c.size<=sizeLine/\aN xs c.toList
theorem TqT.sq{K:Frag}{F:Hp}{a:Addr}{xs:List V}(h:TqT K F a xs):SqT K F a xs:=h.imp .inl id
mutual
def Rp(K:Frag)(F:Hp)(d:List Addr):V->D->Prop
 |v,.non=>v=.non
 |v,.bl b=>v=.bl b
 |v,.int i=>v=.int i
 |v,.str l=>v=.str (S l)
 |v,.lst ds=>∃a c,v=.ref a/\RdK K F a c/\Rps K F d c ds
 |v,.tup ds=>∃a c,v=.ref a/\TqT K F a c/\Rps K F d c ds
 |v,.dic ks vs=>∃(a:Addr) (kvs:List (Key×V)),v=.ref a/\F a=some (.dK kvs)/\ks=kvs.map (λp=>jt p.1)/\Rps K F d (kvs.map (·.2)) vs
 |v,.ob n=>∃a,v=.ref a/\d[n]?=some a
def Rps(K:Frag)(F:Hp)(a:List Addr):List V->List D->Prop
 |xs,[]=>xs=[]
 |xs,d::ds=>∃x r,xs=x::r/\Rp K F a x d/\Rps K F a r ds
end
section
variable {K:Frag}{F F':Hp}{as as':List Addr}
theorem Rd.mono{H c:Hp}{a:Addr}{u:HO}(e:Same H c)(h:Rd H a u):Rd c a u:=by
 rcases h with h | ⟨o,h⟩
 ·exact .inl (e _ _ h)
 ·exact .inr ⟨o,e _ _ h⟩
theorem RdK.mono{H c:Hp}{a:Addr}{xs:List V}(e:Same H c)(h:RdK K H a xs):RdK K c a xs:=h.imp (λz=>z.mono e) id
mutual
theorem Rp.mono(e:Same F F')(c:∀(n:Nat) (a:Addr),as[n]?=some a->as'[n]?=some a):∀(d:D) {v:V},Rp K F as v d->Rp K F' as' v d
 | .non,v,h=>by rw[Rp] at h ⊢;exact h
 | .bl b,v,h=>by rw[Rp] at h ⊢;exact h
 | .int i,v,h=>by rw[Rp] at h ⊢;exact h
 | .str x,v,h=>by rw[Rp] at h ⊢;exact h
 | .lst ds,v,h=>by
  rw[Rp] at h ⊢;obtain⟨a,f,h1,h2,h3⟩:=h;exact⟨a,f,h1,h2.mono e,Rps.mono e c ds h3⟩
 | .tup ds,v,h=>by
  rw[Rp] at h ⊢;obtain⟨a,f,h1,h2,h3⟩:=h;exact⟨a,f,h1,h2.imp (e _ _) id,Rps.mono e c ds h3⟩
 | .dic ks vs,v,h=>by
  rw[Rp] at h ⊢;obtain⟨a,kvs,h1,h2,h3,h4⟩:=h;exact⟨a,kvs,h1,e _ _ h2,h3,Rps.mono e c vs h4⟩
 | .ob n,v,h=>by
  rw[Rp] at h ⊢;obtain⟨a,h1,h2⟩:=h;exact⟨a,h1,c _ _ h2⟩
theorem Rps.mono(e:Same F F')(c:∀(n:Nat) (a:Addr),as[n]?=some a->as'[n]?=some a):∀(ds:List D) {xs:List V},Rps K F as xs ds->Rps K F' as' xs ds
 | [],xs,h=>by rw[Rps] at h ⊢;exact h
 |d::ds,xs,h=>by
  rw[Rps] at h ⊢;obtain⟨x,r,h1,h2,h3⟩:=h;exact⟨x,r,h1,Rp.mono e c d h2,Rps.mono e c ds h3⟩
end
theorem Rp.non:Rp K F as .non .non:=by rw[Rp]
theorem Rp.bl{b:Bool}:Rp K F as (.bl b) (.bl b):=by rw[Rp]
theorem Rp.int{i:Int}:Rp K F as (.int i) (.int i):=by rw[Rp]
theorem Rp.str{l:List Nat}:Rp K F as (.str (S l)) (.str l):=by rw[Rp]
theorem Rp.unN{v:V}(h:Rp K F as v .non):v=.non:=by rw[Rp] at h;exact h
theorem Rp.unB{v:V}{b:Bool}(h:Rp K F as v (.bl b)):v=.bl b:=by rw[Rp] at h;exact h
theorem Rp.unI{v:V}{i:Int}(h:Rp K F as v (.int i)):v=.int i:=by rw[Rp] at h;exact h
theorem Rp.unS{v:V}{l:List Nat}(h:Rp K F as v (.str l)):v=.str (S l):=by rw[Rp] at h;exact h
theorem Rp.unL{v:V}{ds:List D}(h:Rp K F as v (.lst ds)):∃a xs,v=.ref a/\RdK K F a xs/\Rps K F as xs ds:=by rw[Rp] at h;exact h
theorem Rp.unT'{v:V}{ds:List D}(h:Rp K F as v (.tup ds)):∃a xs,v=.ref a/\TqT K F a xs/\Rps K F as xs ds:=by rw[Rp] at h;exact h
theorem Rp.unT{v:V}{ds:List D}(h:Rp K F as v (.tup ds)):∃a xs,v=.ref a/\SqT K F a xs/\Rps K F as xs ds:=let ⟨a,xs,e,h1,h2⟩:=h.unT';⟨a,xs,e,h1.sq,h2⟩
theorem Rp.unO{v:V}{n:Nat}(h:Rp K F as v (.ob n)):∃a,v=.ref a/\as[n]?=some a:=by rw[Rp] at h;exact h
theorem Rp.unD{v:V}{ks vs:List D}(h:Rp K F as v (.dic ks vs)):∃(a:Addr) (kvs:List (Key×V)),v=.ref a/\F a=some (.dK kvs)/\ks=kvs.map (λp=>jt p.1)/\Rps K F as (kvs.map (·.2)) vs:=by rw[Rp] at h;exact h
theorem Rp.mkL{a:Addr}{xs:List V}{ds:List D}(h:RdK K F a xs)(hs:Rps K F as xs ds):Rp K F as (.ref a) (.lst ds):=by rw[Rp];exact⟨a,xs,rfl,h,hs⟩
theorem Rp.mkT{a:Addr}{xs:List V}{ds:List D}(h:TqT K F a xs)(hs:Rps K F as xs ds):Rp K F as (.ref a) (.tup ds):=by rw[Rp];exact⟨a,xs,rfl,h,hs⟩
theorem Rp.mkO{a:Addr}{n:Nat}(h:as[n]?=some a):Rp K F as (.ref a) (.ob n):=by rw[Rp];exact⟨a,rfl,h⟩
theorem Rps.nil:Rps K F as [] []:=by rw[Rps]
theorem Rps.cons{x:V}{xs:List V}{d:D}{ds:List D}(h:Rp K F as x d)(hs:Rps K F as xs ds):Rps K F as (x::xs) (d::ds):=by
 rw[Rps];exact⟨x,xs,rfl,h,hs⟩
theorem Rps.un{xs:List V}{d:D}{ds:List D}(h:Rps K F as xs (d::ds)):∃x r,xs=x::r/\Rp K F as x d/\Rps K F as r ds:=by rw[Rps] at h;exact h
theorem Rps.un0{xs:List V}(h:Rps K F as xs []):xs=[]:=by rw[Rps] at h;exact h
theorem Rps.length:∀{ds:List D}{xs:List V},Rps K F as xs ds->xs.length=ds.length
 | [],xs,h=>by rw[h.un0];rfl
 |d::ds,xs,h=>by
  obtain⟨x,r,rfl,_,h3⟩:=h.un;simp[Rps.length h3]
theorem Rps.get:∀{ds:List D}{xs:List V}{i:Nat}{x:V},Rps K F as xs ds->xs[i]?=some x->∃d,ds[i]?=some d/\Rp K F as x d
 | [],xs,i,x,h,e=>by rw[h.un0] at e;simp at e
 |d::ds,xs,i,x,h,e=>by
  obtain⟨y,r,rfl,h2,h3⟩:=h.un
  cases i with
  |zero=>simp at e;subst e;exact⟨d,rfl,h2⟩
  |succ i =>
   obtain⟨c,a,q⟩:=Rps.get (i:=i) (x:=x) h3 (by simpa using e);exact⟨c,by simpa using a,q⟩
theorem Rps.get':∀{ds:List D}{xs:List V}{i:Nat}{d:D},Rps K F as xs ds->ds[i]?=some d->∃x,xs[i]?=some x/\Rp K F as x d:=by
 intro ds xs i d h e;have f:=h.length
 have a:i<xs.length:=by rw[f];exact(zr.mp e).1
 obtain⟨g,c,q⟩:=h.get (zu a);rw[e] at c;cases c;exact⟨_,zu a,q⟩
theorem Rps.append{ys:List V}{es:List D}(a:Rps K F as ys es):∀{ds:List D}{xs:List V},Rps K F as xs ds->Rps K F as (xs++ys) (ds++es)
 | [],xs,h=>by rw[h.un0];exact a
 |e::ds,xs,h=>by
  obtain⟨y,r,rfl,h2,h3⟩:=h.un;exact Rps.cons h2 (Rps.append a h3)
theorem Rps.snoc{x:V}{d:D}{ds:List D}{xs:List V}(h:Rps K F as xs ds)(a:Rp K F as x d):Rps K F as (xs++[x]) (ds++[d]):=Rps.append (Rps.cons a Rps.nil) h
theorem Rps.take:∀{ds:List D}{xs:List V} (n:Nat),Rps K F as xs ds->Rps K F as (xs.take n) (ds.take n)
 | _,_,0,_=>by simpa using Rps.nil
 | [],xs,n+1,h=>by rw[h.un0];simpa using Rps.nil
 |d::ds,xs,n+1,h=>by
  obtain⟨y,r,rfl,h2,h3⟩:=h.un;exact Rps.cons h2 (Rps.take n h3)
theorem Rps.drop:∀{ds:List D}{xs:List V} (n:Nat),Rps K F as xs ds->Rps K F as (xs.drop n) (ds.drop n)
 | _,_,0,h=>by simpa using h
 | [],xs,n+1,h=>by rw[h.un0];simpa using Rps.nil
 |d::ds,xs,n+1,h=>by
  obtain⟨y,r,rfl,h2,h3⟩:=h.un;exact Rps.drop n h3
theorem Rps.set:∀{ds:List D}{xs:List V}{x:V}{d:D} (n:Nat),Rps K F as xs ds->Rp K F as x d->Rps K F as (xs.set n x) (ds.set n d)
 | [],xs,x,d,n,h,_=>by rw[h.un0];simpa using Rps.nil
 |e::ds,xs,x,d,0,h,hx=>by
  obtain⟨y,r,rfl,h2,h3⟩:=h.un;exact Rps.cons hx h3
 |e::ds,xs,x,d,n+1,h,hx=>by
  obtain⟨y,r,rfl,h2,h3⟩:=h.un;exact Rps.cons h2 (Rps.set n h3 hx)
theorem Rps.rep{ds:List D}{xs:List V}(h:Rps K F as xs ds):∀n:Nat,Rps K F as (List.replicate n xs).flatten (List.replicate n ds).flatten
 | 0=>by simpa using Rps.nil
 |n+1=>by
  rw[List.replicate_succ,List.replicate_succ,List.flatten_cons,List.flatten_cons];exact Rps.append (Rps.rep h n) h
end
def isD:HO->Bool
 | .ins _ _ _=>false
 | .own _=>false
 | .xd _=>false
 | _=>true
def isL:HO->Bool
 | .lst _=>true
 | .dK _=>true
 | _=>false
theorem Ep{o:HO}(h:isL o=true):isD o=true:=by
 cases o<;>first | rfl | cases h
structure Gr(H F:Hp)(as:List Addr)(H' F':Hp)(as':List Addr):Prop where
 fz:∀a o,H a=some o->a∉as->isL o=true->F' a=F a
 ff:Same F F'
 nw:∃new,as'=as++new/\∀a∈new,H a=none
 fr:∀a o,H a=some o->a∉as->isD o=true->H' a=some o
 dm:∀a,H' a=none->H a=none
 kz:∀a o u,H a=some (.frz o u)->H' a=some (.frz o u)
structure Pt where
 p:Addr->Prop
 ss:List (Nat×V×D)
instance:CoeFun Pt (λ_=>Addr->Prop):=⟨Pt.p⟩
def Pt.all(H:Hp):Pt:=⟨λa=>H a≠none,[]⟩
structure GrS(P:Pt)(H F:Hp)(as:List Addr)(H' F':Hp)(as':List Addr):Prop where
 fz:∀a o,P a->H a=some o->a∉as->isL o=true->F' a=F a
 ff:Same F F'
 nw:∃new,as'=as++new/\∀a∈new,H a=none
 fr:∀a o,P a->H a=some o->a∉as->isD o=true->H' a=some o
 dm:∀a,H' a=none->H a=none
 kz:∀a o u,H a=some (.frz o u)->H' a=some (.frz o u)
section
variable {H F H' F' H2 F2:Hp}{as as' as2:List Addr}{P:Pt}
theorem Gr.refl:Gr H F as H F as:=⟨λ_ _ _ _ _=>rfl,Same.refl F,⟨[],by simp,λ_ h=>nomatch h⟩,λ_ _ h _ _=>h,λ_ h=>h,λ_ _ _ h=>h⟩
theorem Gr.trans(a:Gr H F as H' F' as')(b:Gr H' F' as' H2 F2 as2):Gr H F as H2 F2 as2:=by
 obtain⟨l,g,h1⟩:=a.nw;obtain⟨j,m,h2⟩:=b.nw;refine⟨λc o f d hd=>?_,a.ff.trans b.ff,⟨l++j,by rw[m,g,zE],λc f=>?_⟩,λc o e d hd=>?_,λc h=>a.dm c (b.dm c h),λc o u h=>b.kz c o u (a.kz c o u h)⟩
 ·have q:=a.fr c o f d (Ep hd);refine(b.fz c o q ?_ hd).trans (a.fz c o f d hd);rw[g];intro z
  rcases zC.mp z with z | z
  ·exact d z
  ·rw[h1 c z] at f;cases f
 ·rcases zC.mp f with z | z
  ·exact h1 c z
  ·exact a.dm c (h2 c z)
 ·have q:=a.fr c o e d hd;refine b.fr c o q ?_ hd;rw[g];intro z
  rcases zC.mp z with z | z
  ·exact d z
  ·rw[h1 c z] at e;cases e
theorem Gr.toS(a:Gr H F as H' F' as'):GrS P H F as H' F' as':=⟨λc o _=>a.fz c o,a.ff,a.nw,λc o _ e d hd=>a.fr c o e d hd,a.dm,a.kz⟩
theorem GrS.refl:GrS P H F as H F as:=Gr.refl.toS
theorem GrS.trans(a:GrS P H F as H' F' as')(b:GrS P H' F' as' H2 F2 as2):GrS P H F as H2 F2 as2:=by
 obtain⟨l,g,h1⟩:=a.nw;obtain⟨j,m,h2⟩:=b.nw;refine⟨λc o p f d hd=>?_,a.ff.trans b.ff,⟨l++j,by rw[m,g,zE],λc f=>?_⟩,λc o p e d hd=>?_,λc h=>a.dm c (b.dm c h),λc o u h=>b.kz c o u (a.kz c o u h)⟩
 ·have q:=a.fr c o p f d (Ep hd);refine(b.fz c o p q ?_ hd).trans (a.fz c o p f d hd);rw[g];intro z
  rcases zC.mp z with z | z
  ·exact d z
  ·rw[h1 c z] at f;cases f
 ·rcases zC.mp f with z | z
  ·exact h1 c z
  ·exact a.dm c (h2 c z)
 ·have q:=a.fr c o p e d hd;refine b.fr c o p q ?_ hd;rw[g];intro z
  rcases zC.mp z with z | z
  ·exact d z
  ·rw[h1 c z] at e;cases e
theorem GrS.mono{d:Pt}(a:GrS P H F as H' F' as')(h:∀c,d c->P c):GrS d H F as H' F' as':=⟨λc o p=>a.fz c o (h c p),a.ff,a.nw,λc o p=>a.fr c o (h c p),a.dm,a.kz⟩
theorem GrS.gr(a:GrS (Pt.all H) H F as H' F' as'):Gr H F as H' F' as':=⟨λc o e=>a.fz c o (show H c≠none by rw[e];exact λz=>nomatch z) e,a.ff,a.nw,λc o e=>a.fr c o (show H c≠none by rw[e];exact λz=>nomatch z) e,a.dm,a.kz⟩
theorem Gr.at_(a:Gr H F as H' F' as'):∀(n:Nat) (c:Addr),as[n]?=some c->as'[n]?=some c:=λn c h=>by
 obtain⟨d,e,_⟩:=a.nw;rw[e,zB (zr.mp h).1];exact h
theorem GrS.at_(a:GrS P H F as H' F' as'):∀(n:Nat) (c:Addr),as[n]?=some c->as'[n]?=some c:=λn c h=>by
 obtain⟨d,e,_⟩:=a.nw;rw[e,zB (zr.mp h).1];exact h
theorem Gr.out(a:Gr H F as H' F' as'){c:Addr}(h:c∉as)(e:H c≠none):c∉as':=by
 obtain⟨f,d,h1⟩:=a.nw;rw[d];intro z
 rcases zC.mp z with z | z
 ·exact h z
 ·exact e (h1 c z)
theorem GrS.out(a:GrS P H F as H' F' as'){c:Addr}(h:c∉as)(e:H c≠none):c∉as':=by
 obtain⟨f,d,h1⟩:=a.nw;rw[d];intro z
 rcases zC.mp z with z | z
 ·exact h z
 ·exact e (h1 c z)
theorem Rp.gr{K:Frag}{v:V}{d:D}(h:Rp K F as v d)(a:Gr H F as H' F' as'):Rp K F' as' v d:=Rp.mono a.ff a.at_ d h
theorem Rps.gr{K:Frag}{v:List V}{d:List D}(h:Rps K F as v d)(a:Gr H F as H' F' as'):Rps K F' as' v d:=Rps.mono a.ff a.at_ d h
theorem Rp.grS{K:Frag}{v:V}{d:D}(h:Rp K F as v d)(a:GrS P H F as H' F' as'):Rp K F' as' v d:=Rp.mono a.ff a.at_ d h
theorem Rps.grS{K:Frag}{v:List V}{d:List D}(h:Rps K F as v d)(a:GrS P H F as H' F' as'):Rps K F' as' v d:=Rps.mono a.ff a.at_ d h
end
structure FsR(K:Frag)(F:Hp)(as:List Addr)(gs:List (Str×V))(fs:List (Str×D)):Prop where
 nm:gs.map (·.1)=fs.map (·.1)
 vl:Rps K F as (gs.map (·.2)) (fs.map (·.2))
def XF(K:Frag)(F:Hp)(g:List Addr)(a:Option Addr)(fs:List (Str×D)):Prop:=fs=[]\/∃d f c,a=some d/\F d=some (.frz f (.xd c))/\FsR K F g c fs
theorem XF.mono{K:Frag}{F g:Hp}{f d:List Addr}{c:Option Addr}{fs:List (Str×D)}(h:XF K F f c fs)(e:Same F g)(m:∀(n:Nat) (a:Addr),f[n]?=some a->d[n]?=some a):XF K g d c fs:=by
 rcases h with h | ⟨q,j,l,h1,h2,h3,h4⟩
 ·exact .inl h
 ·exact .inr ⟨q,j,l,h1,e _ _ h2,h3,Rps.mono e m _ h4⟩
def ObR(K:Frag)(mg:Str->Option Value)(H F:Hp)(f:List Addr)(a:Addr):Ob->Prop
 | .ins c fs=>∃C m j,mg c=some (.ref C)/\H a=some (.ins C m j)/\FsR K F f j fs
 | .ml ds=>∃d,H a=some (.lst d)/\Rps K F f d ds
 | .dt kvs=>∃d:List (List Key×V),H a=some (.dT d)/\d.map (·.1)=kvs.map (·.1)/\Rps K F f (d.map (·.2)) (kvs.map (·.2))
 | .df kvs=>∃(o:Obj) (d:List (List Key×V)),H a=some (.frz o (.dT d))/\d.map (·.1)=kvs.map (·.1)/\Rps K F f (d.map (·.2)) (kvs.map (·.2))
 | .dk kvs=>∃d:List (Key×V),H a=some (.dK d)/\d.map (·.1)=kvs.map (·.1)/\Rps K F f (d.map (·.2)) (kvs.map (·.2))
 | .kf kvs=>∃(o:Obj) (d:List (Key×V)),H a=some (.frz o (.dK d))/\d.map (·.1)=kvs.map (·.1)/\Rps K F f (d.map (·.2)) (kvs.map (·.2))
 | .xc c fs=>∃(C:Addr) (g:Obj) (u:HO),mg c=some (.ref C)/\H a=some (.frz g u)/\g.cls=.ref C/\(∃l,g.data=.fields l)/\XF K F f g.dict fs
 | .gone=>∃φ,H a=some (.ext φ)
 | .dn kvs=>∃d:List (NK×V),H a=some (.dN K d)/\d.map (·.1)=kvs.map (·.1)/\Rps K F f (d.map (·.2)) (kvs.map (·.2))
 | .nf kvs=>∃(o:Obj) (d:List (NK×V)),H a=some (.frz o (.dN K d))/\d.map (·.1)=kvs.map (·.1)/\Rps K F f (d.map (·.2)) (kvs.map (·.2))
structure RlO(K:Frag)(mg:Str->Option Value)(O:aq)(H F:Hp)(as:List Addr):Prop where
 fh:Same F H
 fd:∀a o,F a=some o->isD o=true
 nd:as.Nodup
 len:as.length=O.length
 fa:∀a∈as,F a=none
 ob:∀(n:Nat) (a:Addr) (o:Ob),as[n]?=some a->O[n]?=some o->ObR K mg H F as a o
inductive Md where
 | v | s | o
 deriving DecidableEq
def iB:D->Bool
 | .lst _=>false
 | _=>true
def fL(P:Pt)(K:Frag)(H F:Hp)(c:List Addr):Md->V->D->Prop
 | .v,v,d=>Rp K F c v d
 | .s,v,d=>Rp K F c v d\/∃a f g,v=.ref a/\d=.lst g/\H a=some (.lst f)/\a∉c/\P a/\Rps K F c f g
 | .o,v,d=>(iB d=true/\Rp K F c v d)\/∃a f g,v=.ref a/\d=.lst g/\H a=some (.lst f)/\F a=none/\a∉c/\¬P a/\Rps K F c f g
structure SlO(K:Frag)(md:List Md)(P:Pt)(ρ:aA)(σ:St)(H F:Hp)(as:List Addr):Prop where
 len:σ.length=md.length
 len':ρ.length=md.length
 pd:∀a,P a->H a≠none
 sl:∀(i:Nat) (m:Md) (d:D),md[i]?=some m->ρ[i]?=some (some d)->∃v,σ[i]?=some (some v)/\fL P K H F as m v d
 inj:∀(i j:Nat) (a:Addr) (ds es:List D),md[i]?=some .o->md[j]?=some .o->ρ[i]?=some (some (.lst ds))->ρ[j]?=some (some (.lst es))->σ[i]?=some (some (.ref a))->σ[j]?=some (some (.ref a))->i=j
 pin:∀x∈P.ss,md[x.1]?=some .s/\ρ[x.1]?=some (some x.2.2)/\σ[x.1]?=some (some x.2.1)
section
variable {K:Frag}{mg:Str->Option Value}{md:List Md}{P:Pt}{ρ:aA}{σ:St}{H F H' F':Hp}{as as':List Addr}{O O':aq}
theorem fL.step{m:Md}{v:V}{d:D}(h:fL P K H F as m v d)(g:Gr H F as H' F' as'):fL P K H' F' as' m v d:=by
 cases m with
 |v=>exact Rp.gr (show Rp K F as v d from h) g
 |s =>
  rcases h with h | ⟨a,j,u,r,q,f,c,n,l⟩
  ·exact .inl (h.gr g)
  ·exact .inr ⟨a,j,u,r,q,g.fr _ _ f c rfl,g.out c (by rw[f];exact λz=>nomatch z),n,l.gr g⟩
 |o =>
  rcases h with⟨h1,h⟩ | ⟨a,j,u,r,q,f,y,c,n,l⟩
  ·exact .inl ⟨h1,h.gr g⟩
  ·have x:H a≠none:=by rw[f];exact λz=>nomatch z
   exact .inr ⟨a,j,u,r,q,g.fr _ _ f c rfl,by rw[g.fz a _ f c rfl];exact y,g.out c x,n,l.gr g⟩
theorem SlO.step(h:SlO K md P ρ σ H F as)(g:Gr H F as H' F' as'):SlO K md P ρ σ H' F' as' :=
 ⟨h.len,h.len',λa p z=>h.pd a p (g.dm a z),λi m d f c=>let ⟨v,q,r⟩:=h.sl i m d f c;⟨v,q,r.step g⟩,h.inj,h.pin⟩
end
def Sv(K:Frag)(H F:Hp)(c:List Addr)(v:V)(d:D):Prop :=
 Rp K F c v d\/∃a f g,v=.ref a/\d=.lst g/\H a=some (.lst f)/\a∉c/\Rps K F c f g
def Lk(K:Frag)(H F:Hp)(g:List Addr)(v:V)(d:D):Prop :=
 Rp K F g v d\/∃a c f,v=.ref a/\d=.lst f/\H a=some (.lst c)/\Rps K F g c f
def Ow(K:Frag)(N:Addr->Prop)(H F:Hp)(c:List Addr)(v:V)(d:D):Prop :=
 (iB d=true/\Rp K F c v d)\/∃a f g,v=.ref a/\d=.lst g/\H a=some (.lst f)/\F a=none/\a∉c/\N a/\Rps K F c f g
def bG(O:aq)(d:D):D:=match d with
 | .ob n=>match O[n]? with
  |some (.ml ds)=>.lst ds
  | _=>.ob n
 |d=>d
section
variable {K:Frag}{mg:Str->Option Value}{H0 H F H' F':Hp}{as as':List Addr}{O:aq}{v:V}{d:D}
theorem Sv.gr(h:Sv K H F as v d)(g:Gr H F as H' F' as'):Sv K H' F' as' v d:=by
 rcases h with h | ⟨a,j,q,n,m,f,c,l⟩
 ·exact .inl (h.gr g)
 ·exact .inr ⟨a,j,q,n,m,g.fr _ _ f c rfl,g.out c (by rw[f];exact λz=>nomatch z),l.gr g⟩
theorem Sv.lk(h:Sv K H F as v d)(r:RlO K mg O H F as):Lk K H F as v (bG O d):=by
 rcases h with h | ⟨a,c,f,rfl,rfl,l,u,j⟩
 ·cases d with
  |ob n =>
   obtain⟨a,rfl,g⟩:=h.unO;unfold bG;dsimp only
   split
   ·rename_i f e;obtain⟨c,q,m⟩:=r.ob n a _ g e;exact .inr ⟨a,c,f,rfl,rfl,q,m⟩
   ·exact .inl (Rp.mkO g)
  | _=>exact .inl h
 ·exact .inr ⟨a,c,f,rfl,rfl,l,j⟩
theorem Lk.list{ds:List D}(h:Lk K H F as v (.lst ds))(fh:Same F H):∃a xs,v=.ref a/\RdK K H a xs/\Rps K F as xs ds:=by
 rcases h with h | ⟨a,xs,l,j,g,f,c⟩
 ·obtain⟨a,xs,e,h1,h2⟩:=h.unL;exact⟨a,xs,e,h1.mono fh,h2⟩
 ·cases g;exact⟨a,xs,j,.inl (.inl f),c⟩
theorem Lk.rp(h:Lk K H F as v d)(c:iB d=true):Rp K F as v d:=by
 rcases h with h | ⟨a,g,f,m,rfl,l,j⟩
 ·exact h
 ·cases c
theorem Sv.rp(h:Sv K H F as v d)(c:iB d=true):Rp K F as v d:=by
 rcases h with h | ⟨a,g,f,m,rfl,l,j⟩
 ·exact h
 ·cases c
theorem Ow.sv{N:Addr->Prop}(h:Ow K N H F as v d):Sv K H F as v d:=by
 rcases h with⟨_,h⟩ | ⟨a,c,n,m,l,j,r,g,q,f⟩
 ·exact .inl h
 ·exact .inr ⟨a,c,n,m,l,j,g,f⟩
theorem Gr.lay{p:Addr}{o:HO}(c:H p=none):Gr H F as (upd H p o) F as :=
 ⟨λ_ _ _ _ _=>rfl,Same.refl F,⟨[],by simp,λ_ h=>nomatch h⟩,λa f e _ _=>by rw[aL (cz e c)];exact e,λa e=>by
  by_cases h:a=p
  ·subst h;exact c
  ·rwa [aL h] at e,λa f u e=>by rw[aL (cz e c)];exact e⟩
theorem ObR.keep{a:Addr}{o:Ob}(h:ObR K mg H F as a o)(g:H' a=H a)(e:Same F F')(j:∀(n:Nat) (a:Addr),as[n]?=some a->as'[n]?=some a):ObR K mg H' F' as' a o:=by
 cases o with
 |ins c fs =>
  obtain⟨C,r,q,h1,h2,h3,h4⟩:=h;exact⟨C,r,q,h1,by rw[g];exact h2,h3,Rps.mono e j _ h4⟩
 |ml ds =>
  obtain⟨f,h1,h2⟩:=h;exact⟨f,by rw[g];exact h1,Rps.mono e j _ h2⟩
 |dt kvs =>
  obtain⟨f,h1,h2,h3⟩:=h;exact⟨f,by rw[g];exact h1,h2,Rps.mono e j _ h3⟩
 |df kvs =>
  obtain⟨o,f,h1,h2,h3⟩:=h;exact⟨o,f,by rw[g];exact h1,h2,Rps.mono e j _ h3⟩
 |dk kvs =>
  obtain⟨f,h1,h2,h3⟩:=h;exact⟨f,by rw[g];exact h1,h2,Rps.mono e j _ h3⟩
 |kf kvs =>
  obtain⟨o,f,h1,h2,h3⟩:=h;exact⟨o,f,by rw[g];exact h1,h2,Rps.mono e j _ h3⟩
 |xc c fs =>
  obtain⟨C,l,u,h1,h2,h3,h4,m⟩:=h;exact⟨C,l,u,h1,by rw[g];exact h2,h3,h4,m.mono e j⟩
 |gone =>
  obtain⟨φ,h1⟩:=h;exact⟨φ,by rw[g];exact h1⟩
 |dn kvs =>
  obtain⟨f,h1,h2,h3⟩:=h;exact⟨f,by rw[g];exact h1,h2,Rps.mono e j _ h3⟩
 |nf kvs =>
  obtain⟨o,f,h1,h2,h3⟩:=h;exact⟨o,f,by rw[g];exact h1,h2,Rps.mono e j _ h3⟩
theorem RlO.at{n:Nat}{a:Addr}{o:Ob}(r:RlO K mg O H F as)(j:as[n]?=some a)(g:O[n]?=some o):H a≠none:=by
 have q:=r.ob n a o j g
 cases o with
 |ins c fs=>obtain⟨C,x,m,h1,h2,_⟩:=q;rw[h2];exact λz=>nomatch z
 |ml y=>obtain⟨f,h1,_⟩:=q;rw[h1];exact λz=>nomatch z
 |dt kvs=>obtain⟨f,h1,_⟩:=q;rw[h1];exact λz=>nomatch z
 |df kvs=>obtain⟨o,f,h1,_⟩:=q;rw[h1];exact λz=>nomatch z
 |dk kvs=>obtain⟨f,h1,_⟩:=q;rw[h1];exact λz=>nomatch z
 |kf kvs=>obtain⟨o,f,h1,_⟩:=q;rw[h1];exact λz=>nomatch z
 |xc c fs=>obtain⟨C,l,u,_,h1,_⟩:=q;rw[h1];exact λz=>nomatch z
 |gone=>obtain⟨φ,h1⟩:=q;rw[h1];exact λz=>nomatch z
 |dn kvs=>obtain⟨f,h1,_⟩:=q;rw[h1];exact λz=>nomatch z
 |nf kvs=>obtain⟨o,f,h1,_⟩:=q;rw[h1];exact λz=>nomatch z
theorem RlO.all{a:Addr}(r:RlO K mg O H F as)(f:a∈as):H a≠none:=by
 obtain⟨n,c,e⟩:=List.mem_iff_getElem.mp f
 have g:n<O.length:=by rw[<-r.len];exact c
 exact r.at (n:=n) (by rw[zu c,e]) (zu g)
theorem RlO.lay{p:Addr}{o:HO}(r:RlO K mg O H F as)(f:H p=none):RlO K mg O (upd H p o) F as:=by
 refine⟨λa u e=>?_,r.fd,r.nd,r.len,r.fa,λn a u g c=>(r.ob n a u g c).keep (aL ?_) (Same.refl F) λ_ _ h=>h⟩
 ·have q:=r.fh a u e;rw[aL (cz q f)];exact q
 ·intro z;subst z;exact r.at g c f
theorem Gr.frz{p:Addr}{o:HO}(j:H p=none)(g:Gr H F as H' F' as')(m:F' p=none):Gr H F as H' (upd F' p o) as' :=
 ⟨λa f c l hd=>by rw[aL (λz=>by subst z;rw[j] at c;cases c)];exact g.fz a f c l hd,λa u e=>by
  have q:=g.ff a u e
  rw[aL (cz q m)];exact q,g.nw,g.fr,g.dm,g.kz⟩
theorem RlO.frz{p:Addr}{o:HO}(r:RlO K mg O H F as)(c:H p=some o)(f:F p=none)(g:p∉as)(hd:isD o=true):RlO K mg O H (upd F p o) as:=by
 have ff:Same F (upd F p o):=λa u e=>by rw[aL (cz e f)];exact e
 refine⟨λa u e=>?_,λa u e=>?_,r.nd,r.len,λa h=>?_,λn a u h1 h2=>(r.ob n a u h1 h2).keep rfl ff λ_ _ h=>h⟩
 ·by_cases h:a=p
  ·subst h;rw[bI] at e;cases e;exact c
  ·rw[aL h] at e;exact r.fh a u e
 ·by_cases h:a=p
  ·subst h;rw[bI] at e;cases e;exact hd
  ·rw[aL h] at e;exact r.fd a u e
 ·rw[aL (λz=>by subst z;exact g h)];exact r.fa a h
end
abbrev RR:=(Addr->Prop)->Hp->Hp->List Addr->V->D->Prop
def rV(K:Frag):RR:=λ_ _ F a v d=>Rp K F a v d
def rS(K:Frag):RR:=λ_ H F a v d=>Sv K H F a v d
def rO(K:Frag):RR:=λN H F a v d=>Ow K N H F a v d
def rA(K:Frag):Md->RR
 | .v=>rV K
 | _=>rS K
def fj(R:RR):Prop:=∀(N f:Addr->Prop) (H F:Hp) (c:List Addr) (v:V) (d:D),(∀a,N a->f a)->R N H F c v d->R f H F c v d
theorem cM{K:Frag}:fj (rV K):=λ_ _ _ _ _ _ _ _ h=>h
theorem fB{K:Frag}:fj (rO K):=λN y H F x v d f h=>by
 rcases h with h | ⟨a,c,u,r,q,n,m,l,j,g⟩
 ·exact .inl h
 ·exact .inr ⟨a,c,u,r,q,n,m,l,f a j,g⟩
def tM(K:Frag)(mg:Str->Option Value)(md:List Md)(P:Pt)(R:RR)(m:M D):TE:=λσ H Q =>
 ∃ρ O F g d l,RlO K mg O H F g/\SlO K md P ρ σ H F g/\m ρ O=.ok d l /\
  ∀v f j c,Gr H F g f j c->RlO K mg l f j c->R (λa=>H a=none) f j c v d->Q v f
def tMT(K:Frag)(mg:Str->Option Value)(md:List Md)(P:Pt)(m:M Bool):TT:=λσ H Q =>
 ∃ρ O F c b f,RlO K mg O H F c/\SlO K md P ρ σ H F c/\m ρ O=.ok b f /\
  ∀d g a,Gr H F c d g a->RlO K mg f d g a->Q b d
def cN(K:Frag)(H F:Hp)(a:List Addr):List Md->List V->List D->Prop
 | [],[],[]=>True
 |m::ms,v::vs,d::ds=>rA K m (λ_=>True) H F a v d/\cN K H F a ms vs ds
 | _,_,_=>False
def tMA(K:Frag)(mg:Str->Option Value)(md:List Md)(P:Pt)(ms:List Md)(m:M (List D)):TA:=λσ H Q =>
 ∃ρ O F d j l,RlO K mg O H F d/\SlO K md P ρ σ H F d/\m ρ O=.ok j l /\
  ∀g c f a,Gr H F d c f a->RlO K mg l c f a->cN K c f a ms g j->Q g c
def XE(X:Cx)(md:List Md)(P:Pt)(R:RR)(e:Expr)(m:M D):Prop:=PE X e (tM X.K X.mg md P R m)
def VE(X:Cx)(md:List Md)(P:Pt)(e:Expr)(m:M D):Prop:=PE X e (tM X.K X.mg md P (rV X.K) m)
def SE(X:Cx)(md:List Md)(P:Pt)(e:Expr)(m:M D):Prop:=PE X e (tM X.K X.mg md P (rS X.K) m)
def OE(X:Cx)(md:List Md)(P:Pt)(e:Expr)(m:M D):Prop:=PE X e (tM X.K X.mg md P (rO X.K) m)
def TsE(X:Cx)(md:List Md)(P:Pt)(e:Expr)(m:M Bool):Prop:=PT X e (tMT X.K X.mg md P m)
def TwE(X:Cx)(md:List Md)(P:Pt)(e:Expr)(m:M Bool):Prop:=PW X e (tMT X.K X.mg md P m)
def AE(X:Cx)(md:List Md)(P:Pt)(ms:List Md)(es:List Expr)(m:M (List D)):Prop:=PA X es (tMA X.K X.mg md P ms m)
def ju(K:Frag)(mg:Str->Option Value)(md:List Md)(P:Pt)(R:RR)(D:Ends)(H F:Hp)(l:List Addr):Fl->Prop
 | .nx ρ' O'=>∀g f j c,GrS P H F l f j c->RlO K mg O' f j c->SlO K md P ρ' g f j c->D.nx g f
 | .bk ρ' O'=>∀g f j c,GrS P H F l f j c->RlO K mg O' f j c->SlO K md P ρ' g f j c->D.bk g f
 | .ct ρ' O'=>∀g f j c,GrS P H F l f j c->RlO K mg O' f j c->SlO K md P ρ' g f j c->D.ct g f
 | .rt d O'=>∀v f j c,GrS P H F l f j c->RlO K mg O' f j c->R (λa=>¬P a) f j c v d->D.rt v f
 | .ex _ _=>False
 | .no=>False
def tMS(K:Frag)(mg:Str->Option Value)(md:List Md)(P:Pt)(R:RR)(m:MS):TS:=λD σ H =>
 ∃ρ O F a,RlO K mg O H F a/\SlO K md P ρ σ H F a/\ju K mg md P R D H F a (m ρ O)
def VS(X:Cx)(md:List Md)(P:Pt)(R:RR)(st:Stmt)(m:MS):Prop:=PS X st (tMS X.K X.mg md P R m)
def VSs(X:Cx)(md:List Md)(P:Pt)(R:RR)(st:List Stmt)(m:MS):Prop:=PSs X st (tMS X.K X.mg md P R m)
section
variable {X:Cx}{md:List Md}{P:Pt}{R:RR}
theorem PE.imp{e:Expr}{t t':TE}(h:PE X e t)(k:∀σ H Q,t' σ H Q->t σ H Q):PE X e t':=λpins s σ H Q I q=>h pins s σ H Q I (k σ H Q q)
theorem PT.imp{e:Expr}{t t':TT}(h:PT X e t)(k:∀σ H Q,t' σ H Q->t σ H Q):PT X e t':=λpins s σ H Q I q=>h pins s σ H Q I (k σ H Q q)
theorem PW.imp{e:Expr}{t t':TT}(h:PW X e t)(k:∀σ H Q,t' σ H Q->t σ H Q):PW X e t':=λw pins s σ H Q I q=>h w pins s σ H Q I (k σ H Q q)
theorem PA.imp{e:List Expr}{t t':TA}(h:PA X e t)(k:∀σ H Q,t' σ H Q->t σ H Q):PA X e t':=λa pins s σ H Q I q=>h a pins s σ H Q I (k σ H Q q)
theorem PS.imp{e:Stmt}{t t':TS}(h:PS X e t)(k:∀D σ H,t' D σ H->t D σ H):PS X e t':=λpins s σ H D I q=>h pins s σ H D I (k D σ H q)
theorem PSs.imp{e:List Stmt}{t t':TS}(h:PSs X e t)(k:∀D σ H,t' D σ H->t D σ H):PSs X e t':=λpins s σ H D I q=>h pins s σ H D I (k D σ H q)
def aa(i:Nat):M D:=λρ O=>match ρ[i]? with
 |some (some d)=>.ok d O
 | _=>.no
def mC(d:D):M D:=λ_ O=>.ok d O
def mG(m:M D):M D:=λρ O=>match m ρ O with
 | .ok d O'=>if iB d=true then .ok d O' else .no
 |r=>r
theorem qY{i:Nat}{ρ:aA}{O a:aq}{d:D}(h:aa i ρ O=.ok d a):ρ[i]?=some (some d)/\a=O:=by
 unfold aa at h;split at h
 ·rename_i c e;cases h;exact⟨e,rfl⟩
 ·cases h
theorem Er{m:M D}{ρ:aA}{O c:aq}{d:D}(h:mG m ρ O=.ok d c):m ρ O=.ok d c/\iB d=true:=by
 unfold mG at h;split at h
 ·rename_i g j e;split at h
  ·rename_i f;cases h;exact⟨e,f⟩
  ·cases h
 ·rename_i a;exact absurd h (a _ _)
theorem SlO.get{K:Frag}{ρ:aA}{σ:St}{H F:Hp}{c:List Addr}{i:Nat}{d:D}(s:SlO K md P ρ σ H F c)(h:ρ[i]?=some (some d)):∃m v,md[i]?=some m/\σ[i]?=some (some v)/\fL P K H F c m v d:=by
 have a:i<md.length:=by rw[<-s.len'];exact(zr.mp h).1
 obtain⟨v,h1,h2⟩:=s.sl i md[i] d (zu a) h;exact⟨_,v,zu a,h1,h2⟩
theorem fL.sv{K:Frag}{H F:Hp}{r:List Addr}{m:Md}{v:V}{d:D}(h:fL P K H F r m v d):Sv K H F r v d:=by
 cases m with
 |v=>exact .inl h
 |s =>
  rcases h with h | ⟨a,c,q,n,l,j,g,u,f⟩
  ·exact .inl h
  ·exact .inr ⟨a,c,q,n,l,j,g,f⟩
 |o =>
  rcases h with⟨_,h⟩ | ⟨a,c,q,n,l,j,x,g,u,f⟩
  ·exact .inl h
  ·exact .inr ⟨a,c,q,n,l,j,g,f⟩
theorem aO(i:Nat){x:Str}{a:Pos}(hN:X.N[i]?=some x:=by rfl)(f:Vis X.env.scope x:=by first | exact Or.inl rfl | exact Or.inr (Or.inl rfl) | exact Or.inr (Or.inr rfl))
  (hd:(x == ("__debug__":Str))=false:=by decide) (c:(x == ("__classdict__":Str))=false:=by decide):SE X md P (.Name x a) (aa i):=by
 refine(kJ (i:=i) hN f hd c).imp λσ H Q h=>?_
 obtain⟨ρ,O,F,j,d,l,r,s,e,k⟩:=h;obtain⟨g,rfl⟩:=qY e;obtain⟨m,v,h1,h2,h3⟩:=s.get g;exact⟨v,h2,k v H F j Gr.refl r h3.sv⟩
theorem az(i:Nat){x:Str}{a:Pos}(g:md[i]?=some .v:=by rfl)(hN:X.N[i]?=some x:=by rfl)(f:Vis X.env.scope x:=by first | exact Or.inl rfl | exact Or.inr (Or.inl rfl) | exact Or.inr (Or.inr rfl))
  (hd:(x == ("__debug__":Str))=false:=by decide) (c:(x == ("__classdict__":Str))=false:=by decide):VE X md P (.Name x a) (aa i):=by
 refine(kJ (i:=i) hN f hd c).imp λσ H Q h=>?_
 obtain⟨ρ,O,F,l,d,m,r,s,e,k⟩:=h;obtain⟨j,rfl⟩:=qY e;obtain⟨v,h2,h3⟩:=s.sl i .v d g j;exact⟨v,h2,k v H F l Gr.refl r h3⟩
theorem ao{e:Expr}{m:M D}(h:VE X md P e m):SE X md P e m:=h.imp λσ H Q q=>by
 obtain⟨ρ,O,F,j,d,u,r,s,e,k⟩:=q;exact⟨ρ,_,F,j,_,_,r,s,e,λv l n a g c f=>k v l n a g c (.inl f)⟩
theorem aM{e:Expr}{m:M D}(h:OE X md P e m):SE X md P e m:=h.imp λσ H Q q=>by
 obtain⟨ρ,O,F,j,d,u,r,s,e,k⟩:=q;exact⟨ρ,_,F,j,_,_,r,s,e,λv l n a g c f=>k v l n a g c (Ow.sv f)⟩
theorem dw{e:Expr}{m:M D}(h:SE X md P e m):VE X md P e (mG m):=h.imp λσ H Q q=>by
 obtain⟨ρ,O,F,l,d,x,r,s,e,k⟩:=q;obtain⟨e,j⟩:=Er e;exact⟨ρ,_,F,l,_,_,r,s,e,λv n u a g c f=>k v n u a g c (Sv.rp f j)⟩
theorem Es{e:Expr}{m:M D}(h:VE X md P e m):OE X md P e (mG m):=h.imp λσ H Q q=>by
 obtain⟨ρ,O,F,l,d,x,r,s,e,k⟩:=q;obtain⟨e,j⟩:=Er e;exact⟨ρ,_,F,l,_,_,r,s,e,λv n u a g c f=>k v n u a g c (.inl ⟨j,f⟩)⟩
theorem bD{e:Expr}{m:M D}(h:OE X md P e m):VE X md P e m:=h.imp λσ H Q q=>by
 obtain⟨ρ,O,F,I,d,L,r,s,e,k⟩:=q;refine⟨ρ,_,F,I,_,_,r,s,e,λv y f c g x j=>?_⟩
 rcases j with⟨_,j⟩ | ⟨a,n,J,rfl,rfl,G,l,E,C,B⟩
 ·exact k v y f c g x j
 ·have ff:Same f (upd f a (.lst n)):=λb u q=>by rw[aL (cz q l)];exact q
  refine k _ y (upd f a (.lst n)) c (g.frz C l) (x.frz G l E rfl) (Rp.mkL (.inl (.inl bI)) (Rps.mono ff (λ_ _ z=>z) _ B))
theorem oN{e:Expr}{v:V}{d:D}(h:PE X e (tC v))(hd:∀K F a,Rp K F a v d):VE X md P e (mC d):=h.imp λσ H Q q=>by
 obtain⟨ρ,O,F,a,d,c,r,s,e,k⟩:=q;cases e;exact k v H F a Gr.refl r (hd _ _ _)
theorem aF{i:Int}{j pos}:VE X md P (.Constant (.int i) j pos) (mC (.int i)):=oN M4 λ_ _ _=>Rp.int
theorem lB{b:Bool}{j pos}:VE X md P (.Constant (.bool b) j pos) (mC (.bl b)):=oN M5 λ_ _ _=>Rp.bl
theorem oO{j pos}:VE X md P (.Constant .none j pos) (mC .non):=oN M6 λ_ _ _=>Rp.non
theorem aV{x:Str}{j pos}(l:List Nat)(a:x=S l:=by decide +kernel):VE X md P (.Constant (.str x) j pos) (mC (.str l)):=oN Cr λ_ _ _=>by rw[a];exact Rp.str
theorem Et{x:Str}{v:V}{d:D}{a:Pos}(h:∃u,X.mg x=some u/\RelV v u)(hd:∀K F g,Rp K F g v d)(f:Gl X x:=by rfl)(c:(x == ("__debug__":Str))=false:=by decide):VE X md P (.Name x a) (mC d):=oN (Ei h f c) hd
def au:M (List D):=λ_ O=>.ok [] O
def ak(m:M D)(r:M (List D)):M (List D):=λρ O=>(m ρ O).bind λd f=>(r ρ f).bind λa c=>.ok (d::a) c
theorem aJ:AE X md P [] [] au:=qN.imp λσ H Q q=>by
 obtain⟨ρ,O,F,a,d,c,r,s,e,k⟩:=q;cases e;exact k [] H F a Gr.refl r trivial
theorem rA.gr{K:Frag}{m:Md}{N:Addr->Prop}{H F f j:Hp}{a c:List Addr}{v:V}{d:D}(h:rA K m N H F a v d)(g:Gr H F a f j c):rA K m (λ_=>True) f j c v d:=by
 cases m with
 |v=>exact Rp.gr (show Rp K F a v d from h) g
 |s=>exact Sv.gr (show Sv K H F a v d from h) g
 |o=>exact Sv.gr (show Sv K H F a v d from h) g
theorem cN.gr{K:Frag}{H F f j:Hp}{c a:List Addr}(g:Gr H F c f j a):∀{ms:List Md}{vs:List V}{ds:List D},cN K H F c ms vs ds->cN K f j a ms vs ds
 | [],[],[],_=>trivial
 |m::ms,v::vs,d::ds,h=>⟨rA.gr h.1 g,cN.gr g h.2⟩
 | [],[],_::_,h=>h.elim
 | [],_::_,[],h=>h.elim
 | [],_::_,_::_,h=>h.elim
 | _::_,[],[],h=>h.elim
 | _::_,[],_::_,h=>h.elim
 | _::_,_::_,[],h=>h.elim
theorem Eu(a:Md){e:Expr}{es:List Expr}{m:M D}{ms:List Md}{r:M (List D)}(h:XE X md P (rA X.K a) e m)(C:AE X md P ms es r)
  (hs:starEach (e::es) X.env=(false,eval e X.env)::starEach es X.env:=by exact dH rfl):AE X md P (a::ms) (e::es) (ak m r):=(qO h C hs).imp λσ H Q q=>by
 obtain⟨ρ,O,F,I,d,Z,y,s,e,k⟩:=q;obtain⟨d,Y,G,e⟩:=Res.bind_ok e;obtain⟨U,W,E,e⟩:=Res.bind_ok e;cases e;refine⟨ρ,_,F,I,_,_,y,s,G,λv H1 T g l x B=>?_⟩;refine⟨ρ,_,T,g,_,_,x,s.step l,E,λn J L f j u c=>?_⟩;exact k (v::n) J L f (l.trans j) u ⟨rA.gr B j,c⟩
theorem aQ{e:Expr}{es:List Expr}{m:M D}{ms:List Md}{r:M (List D)}(h:VE X md P e m)(a:AE X md P ms es r)
  (hs:starEach (e::es) X.env=(false,eval e X.env)::starEach es X.env:=by exact dH rfl):AE X md P (.v::ms) (e::es) (ak m r):=Eu .v h a hs
theorem aK{e:Expr}{es:List Expr}{m:M D}{ms:List Md}{r:M (List D)}(h:SE X md P e m)(a:AE X md P ms es r)
  (hs:starEach (e::es) X.env=(false,eval e X.env)::starEach es X.env:=by exact dH rfl):AE X md P (.s::ms) (e::es) (ak m r):=Eu .s h a hs
theorem cN.rps{K:Frag}{H F:Hp}{a:List Addr}:∀{n:Nat}{vs:List V}{ds:List D},cN K H F a (List.replicate n .v) vs ds->Rps K F a vs ds
 | 0,[],[],_=>Rps.nil
 |n+1,v::vs,d::ds,h=>by
  rw[List.replicate_succ] at h;exact Rps.cons h.1 (cN.rps h.2)
 | 0,[],_::_,h=>h.elim
 | 0,_::_,[],h=>h.elim
 | 0,_::_,_::_,h=>h.elim
 |n+1,[],[],h=>h.elim
 |n+1,[],_::_,h=>h.elim
 |n+1,_::_,[],h=>h.elim
def bA(r:M (List D)):M D:=λρ O=>(r ρ O).bind λa c=>if a.length<=1000000 then .ok (.lst a) c else .no
def bH(r:M (List D)):M D:=λρ O=>(r ρ O).bind λa c=>if a.length<=1000000 then .ok (.tup a) c else .no
theorem gG{n:Nat}(h:n<=1000000):n<=sizeLine:=zG h (by decide)
theorem cV{es:List Expr}{g:Pos}{r:M (List D)}(n:Nat)(h:AE X md P (List.replicate n .v) es r):OE X md P (.List es g) (bA r):=(Qo h).imp λσ H Q q=>by
 obtain⟨ρ,O,F,B,d,E,u,s,e,k⟩:=q;obtain⟨ds,C,y,e⟩:=Res.bind_ok e;split at e
 ·rename_i hz;cases e;refine⟨ρ,_,F,B,_,_,u,s,y,λvs G f j m c hv=>?_⟩;have l:=hv.rps;refine⟨by rw[l.length];exact gG hz,λp a=>?_⟩
  have x:f p=none:=by
   cases q:f p with
   |none=>rfl
   |some o=>rw[c.fh p o q] at a;cases a
  refine k _ _ f j (m.trans (Gr.lay a)) (c.lay a) (.inr ⟨p,vs,ds,rfl,rfl,bI,x,λz=>c.all z a,m.dm p a,l⟩)
 ·cases e
theorem dz{es:List Expr}{j:Pos}{x1}{r:M (List D)}(n:Nat)(h:AE X md P (List.replicate n .v) es r):VE X md P (.Tuple es x1 j) (bH r):=(Qn h).imp λσ H Q q=>by
 obtain⟨ρ,O,F,C,d,G,y,s,e,k⟩:=q;obtain⟨ds,E,B,e⟩:=Res.bind_ok e;split at e
 ·rename_i hz;cases e;refine⟨ρ,_,F,C,_,_,y,s,B,λvs I c l x f hv=>?_⟩;have m:=hv.rps;refine⟨by rw[m.length];exact gG hz,λp a=>?_⟩
  have g:c p=none:=by
   cases q:c p with
   |none=>rfl
   |some o=>rw[f.fh p o q] at a;cases a
  have ff:Same c (upd c p (.tup vs)):=λb u q=>by rw[aL (cz q g)];exact q
  refine k _ _ (upd c p (.tup vs)) l ((x.trans (Gr.lay a)).frz (x.dm p a) g) ((f.lay a).frz bI g (λz=>f.all z a) rfl) (Rp.mkT (.inl bI) (Rps.mono ff (λ_ _ z=>z) _ m))
 ·cases e
def rD(K:Frag)(mg:Str->Option Value)(g:D->D->Option D):R2:=λx y H Q=>∃O F c n m d,RlO K mg O H F c/\Lk K H F c x n/\Lk K H F c y m/\g n m=some d /\
 ∀l f j,Gr H F c f j c->RlO K mg O f j c->Ow K (λa=>H a=none) f j c l d->Q l f
abbrev OpD(X:Cx)(f:Value->Value->Sem Value)(g:D->D->Option D):Prop:=OpR X f (rD X.K X.mg g)
def aj(g:D->D->Option D)(c mb:M D):M D:=λρ O=>(c ρ O).bind λx f=>(mb ρ f).bind λy a=>match g (bG a x) (bG a y) with
 |some d=>.ok d a
 |none=>.no
theorem vP{K:Frag}{mg:Str->Option Value}{g:D->D->Option D}{n mb:M D}{σ:St}{H:Hp}{Q:VK}(h:tM K mg md P (rO K) (aj g n mb) σ H Q):tOp (rD K mg g) (tM K mg md P (rS K) n) (tM K mg md P (rS K) mb) σ H Q:=by
 obtain⟨ρ,O,F,Y,d,O',r,sl,e,k⟩:=h;obtain⟨x,O1,W,e⟩:=Res.bind_ok e;obtain⟨y,O2,U,e⟩:=Res.bind_ok e;split at e
 ·rename_i d' J;cases e;refine⟨ρ,_,F,Y,_,_,r,sl,W,λv H1 F1 m l B G=>?_⟩;refine⟨ρ,_,F1,m,_,_,B,sl.step l,U,λu H2 F2 c j f I=>?_⟩;refine⟨_,F2,c,_,_,_,f,Sv.lk (Sv.gr G j) f,Sv.lk I f,J,λq Z F' T C E=>?_⟩;exact k q Z F' c ((l.trans j).trans T) C (fB _ _ _ _ _ _ _ (λa L=>(l.trans j).dm a L) E)
 ·cases e
theorem aW{f d:Expr}{a:Pos}{op:Operator}{g:D->D->Option D}{c mb:M D}(j:OpD X (binaryOp op) g)(m:SE X md P f c)(l:SE X md P d mb):OE X md P (.BinOp f op d a) (aj g c mb):=
 (Ov j m l).imp λ_ _ _=>vP
theorem lC{f a:Expr}{c:Pos}{op:CmpOp}{g:D->D->Option D}{d mb:M D}(j:OpD X (compareOp op) g)(n:SE X md P f d)(m:SE X md P a mb)(l:behindInMarks op a=false):OE X md P (.Compare f [op] [a] c) (aj g d mb):=
 (Pu j n m l).imp λ_ _ _=>vP
def aB(m:M D):M Bool:=λρ O=>(m ρ O).bind λd a=>match d with
 | .bl b=>.ok b a
 | _=>.no
theorem vQ{K:Frag}{mg:Str->Option Value}{m:M D}{σ:St}{H:Hp}{Q:Bool->Hp->Prop}(h:tMT K mg md P (aB m) σ H Q):vf (tM K mg md P (rO K) m) σ H Q:=by
 obtain⟨ρ,O,F,u,d,G,r,sl,e,k⟩:=h;obtain⟨d,E,q,e⟩:=Res.bind_ok e
 cases d with
 |bl c =>
  cases e;refine⟨ρ,_,F,u,_,_,r,sl,q,λv x y g l j f=>?_⟩
  rcases f with⟨_,f⟩ | ⟨a,B,C,_,n,_⟩
  ·exact⟨_,f.unB,k x y g l j⟩
  ·cases n
 | _=>cases e
theorem bB{f a:Expr}{c:Pos}{op:CmpOp}{g:D->D->Option D}{d mb:M D}(j:OpD X (compareOp op) g)(n:SE X md P f d)(m:SE X md P a mb)(l:behindInMarks op a=false):TsE X md P (.Compare f [op] [a] c) (aB (aj g d mb)):=
 (Px j n m l).imp λσ H Q h=>by
  have q:=vQ h;exact vP q
def Ew(g g':D->D->Option D)(f mb mc:M D):M D:=λρ O=>(f ρ O).bind λx j=>(mb ρ j).bind λy a=>match g (bG a x) (bG a y) with
 |some (.bl true)=>(mc ρ a).bind λz c=>match g' (bG c y) (bG c z) with
  |some d=>.ok d c
  |none=>.no
 |some (.bl false)=>.ok (.bl false) a
 | _=>.no
def isNon:D->Bool
 | .non=>true
 | _=>false
def iC(m:M D):M D:=λρ O=>(m ρ O).bind λd a=>.ok (.bl (isNon d)) a
def gH(m:M D):M D:=λρ O=>(m ρ O).bind λd a=>.ok (.bl (!isNon d)) a
theorem Sv.isN{K:Frag}{H F:Hp}{f:List Addr}{v:V}{d:D}(h:Sv K H F f v d):decide (v=.non)=isNon d:=by
 rcases h with h | ⟨a,c,g,rfl,rfl,_⟩
 ·cases d with
  |non=>rw[h.unN];rfl
  |bl b=>rw[h.unB];rfl
  |int b=>rw[h.unI];rfl
  |str b=>rw[h.unS];rfl
  |lst b=>obtain⟨a,c,rfl,_⟩:=h.unL;rfl
  |tup b=>obtain⟨a,c,rfl,_⟩:=h.unT;rfl
  |dic k b=>obtain⟨a,c,rfl,_⟩:=h.unD;rfl
  |ob b=>obtain⟨a,rfl,_⟩:=h.unO;rfl
 ·rfl
theorem Sd{K:Frag}{mg:Str->Option Value}{m:M D}{σ:St}{H:Hp}{Q:VK}(h:tM K mg md P (rO K) (iC m) σ H Q):Cu (tM K mg md P (rS K) m) σ H Q:=by
 obtain⟨ρ,O,F,l,d,y,r,sl,e,k⟩:=h;obtain⟨x,u,j,e⟩:=Res.bind_ok e;cases e;refine⟨ρ,_,F,l,_,_,r,sl,j,λv n q a g c f=>?_⟩;dsimp only;rw[Sv.isN f];exact k _ n q a g c (.inl ⟨rfl,Rp.bl⟩)
theorem Sg{K:Frag}{mg:Str->Option Value}{m:M D}{σ:St}{H:Hp}{Q:VK}(h:tM K mg md P (rO K) (gH m) σ H Q):Cv (tM K mg md P (rS K) m) σ H Q:=by
 obtain⟨ρ,O,F,l,d,y,r,sl,e,k⟩:=h;obtain⟨x,u,j,e⟩:=Res.bind_ok e;cases e;refine⟨ρ,_,F,l,_,_,r,sl,j,λv n q a g c f=>?_⟩;dsimp only;rw[Sv.isN f];exact k _ n q a g c (.inl ⟨rfl,Rp.bl⟩)
theorem Ex{t t':TE}{σ:St}{H:Hp}{Q:Bool->Hp->Prop}(h:∀a,t σ H a->t' σ H a)(q:vf t σ H Q):tB t' σ H Q:=h _ q
theorem vR{a:Expr}{c pos':Pos}{j}{m:M D}(h:SE X md P a m):TsE X md P (.Compare a [.Is] [.Constant .none j pos'] c) (aB (iC m)):=(Cw (M9 h)).imp λ_ _ _ q=>Ex (λ_=>Sd) (vQ q)
theorem Ey{a:Expr}{c pos':Pos}{j}{m:M D}(h:SE X md P a m):TsE X md P (.Compare a [.IsNot] [.Constant .none j pos'] c) (aB (gH m)):=(Cw (Nb h)).imp λ_ _ _ q=>Ex (λ_=>Sg) (vQ q)
def mL:D->Option Bool
 | .non=>some false
 | .bl b=>some b
 | .int i=>some (i != 0)
 | .str l=>if l.length<=1000000 then some (!l.isEmpty) else none
 | .lst ds=>some (!ds.isEmpty)
 | .tup ds=>some (!ds.isEmpty)
 | .dic ks _=>some (!ks.isEmpty)
 | .ob _=>none
def cW(m:M D):M Bool:=λρ O=>(m ρ O).bind λd a=>match mL (bG a d) with
 |some b=>.ok b a
 |none=>.no
theorem Ez{α β:Type}{xs:List α}{ys:List β}(h:xs.length=ys.length):(!xs.isEmpty) = !ys.isEmpty:=by
 cases xs<;>cases ys<;>simp_all
theorem Lk.tru{K:Frag}{H F:Hp}{j:List Addr}{v:V}{d:D}{b:Bool}(h:Lk K H F j v d)(fh:Same F H)(e:mL d=some b):vg K v H b:=by
 cases d with
 |non=>rw[(h.rp rfl).unN];cases e;rfl
 |bl b=>rw[(h.rp rfl).unB];cases e;rfl
 |int b=>rw[(h.rp rfl).unI];cases e;rfl
 |str l =>
  rw[(h.rp rfl).unS];simp only[mL] at e;split at e
  ·rename_i g;cases e;refine⟨by rw[eG];exact gG g,?_⟩;rw[eG]
   cases l with
   |nil=>rfl
   |cons c l =>
    have:((((c::l).length:Nat):Int) != 0)=true:=by
     rw[bne_iff_ne,zv];omega
    rw[this];rfl
  ·cases e
 |lst ds =>
  obtain⟨a,f,rfl,h1,h2⟩:=h.list fh;cases e;exact .inl ⟨f,h1.sq,(Ez h2.length).symm⟩
 |tup ds =>
  obtain⟨a,f,rfl,h1,h2⟩:=(h.rp rfl).unT;cases e;exact .inr (.inl ⟨f,Same.seqT fh h1,(Ez h2.length).symm⟩)
 |dic ks vs =>
  obtain⟨a,kvs,rfl,h1,rfl,h2⟩:=(h.rp rfl).unD;cases e;exact .inr (.inr ⟨kvs,fh _ _ h1,by cases kvs<;>rfl⟩)
 |ob n=>cases e
theorem oR{a:Expr}{m:M D}(h:SE X md P a m)(l:∀whole,isTrue a X.env whole=(do let v <-whole;standAt a.pos;holding [v] (truthy v)):=by intro _;rfl):TsE X md P a (cW m):=(PB h l).imp λσ H Q q=>by
 obtain⟨ρ,O,F,y,d,G,r,sl,e,k⟩:=q;obtain⟨d,E,x,e⟩:=Res.bind_ok e;split at e
 ·rename_i c n;cases e;exact⟨ρ,_,F,y,_,_,r,sl,x,λv B C g u f j=>⟨_,Lk.tru (Sv.lk j f) f.fh n,k B C g u f⟩⟩
 ·cases e
def b7(a b:M Bool):M Bool:=λρ O=>(a ρ O).bind λc d=>if c=true then b ρ d else .ok false d
def cO(a b:M Bool):M Bool:=λρ O=>(a ρ O).bind λc d=>if c=true then .ok true d else b ρ d
def oU(a:M Bool):M Bool:=λρ O=>(a ρ O).bind λc d=>.ok (!c) d
theorem Sh{K:Frag}{mg:Str->Option Value}{l mb:M Bool}{σ:St}{H:Hp}{Q:Bool->Hp->Prop}(h:tMT K mg md P (b7 l mb) σ H Q):Cy (tMT K mg md P l) (tMT K mg md P mb) σ H Q:=by
 obtain⟨ρ,O,F,x,d,G,r,sl,e,k⟩:=h;obtain⟨c,E,u,e⟩:=Res.bind_ok e;refine⟨ρ,_,F,x,_,_,r,sl,u,λB m a f j=>?_⟩
 cases c with
 |true =>
  rw[if_pos rfl] at e ⊢;exact⟨ρ,_,m,a,_,_,j,sl.step f,e,λy C g q n=>k y C g (f.trans q) n⟩
 |false =>
  rw[if_neg zh] at e ⊢;cases e;exact k B m a f j
theorem Sq{K:Frag}{mg:Str->Option Value}{l mb:M Bool}{σ:St}{H:Hp}{Q:Bool->Hp->Prop}(h:tMT K mg md P (cO l mb) σ H Q):tOr (tMT K mg md P l) (tMT K mg md P mb) σ H Q:=by
 obtain⟨ρ,O,F,x,d,G,r,sl,e,k⟩:=h;obtain⟨c,E,u,e⟩:=Res.bind_ok e;refine⟨ρ,_,F,x,_,_,r,sl,u,λB m a f j=>?_⟩
 cases c with
 |true =>
  rw[if_pos rfl] at e ⊢;cases e;exact k B m a f j
 |false =>
  rw[if_neg zh] at e ⊢;exact⟨ρ,_,m,a,_,_,j,sl.step f,e,λy C g q n=>k y C g (f.trans q) n⟩
theorem mO{a:Expr}{c:Pos}{m:M Bool}(h:TsE X md P a m):TwE X md P (.BoolOp .And [a] c) m:=Ng h
theorem jT{a:Expr}{c:Pos}{m:M Bool}(h:TsE X md P a m):TwE X md P (.BoolOp .Or [a] c) m:=Nh h
theorem jw{a b:Expr}{rest:List Expr}{c:Pos}{d mb:M Bool}(g:TsE X md P a d)(f:TwE X md P (.BoolOp .And (b::rest) c) mb):TwE X md P (.BoolOp .And (a::b::rest) c) (b7 d mb):=(Ni g f).imp λ_ _ _=>Sh
theorem jx{a b:Expr}{rest:List Expr}{c:Pos}{d mb:M Bool}(g:TsE X md P a d)(f:TwE X md P (.BoolOp .Or (b::rest) c) mb):TwE X md P (.BoolOp .Or (a::b::rest) c) (cO d mb):=(Nj g f).imp λ_ _ _=>Sq
theorem fC{e:Expr}{m:M Bool}(h:TwE X md P e m):TsE X md P e m:=PW.pt h
theorem Ss{a:Expr}{f:Pos}{m:M Bool}(h:TsE X md P a m):TsE X md P (.UnaryOp .Not a f) (oU m):=(Nk h).imp λσ H Q q=>by
 obtain⟨ρ,O,F,j,d,n,r,sl,e,k⟩:=q;obtain⟨c,l,g,e⟩:=Res.bind_ok e;cases e;exact⟨ρ,_,F,j,_,_,r,sl,g,k⟩
def qZ(c mb:M D):M D:=λρ O=>(c ρ O).bind λd a=>match d with
 | .bl true=>mb ρ a
 | .bl false=>.ok (.bl false) a
 | _=>.no
def EY(c mb:M D):M D:=λρ O=>(c ρ O).bind λd a=>match d with
 | .bl true=>.ok (.bl true) a
 | .bl false=>mb ρ a
 | _=>.no
def Su(a:M D):M D:=λρ O=>(a ρ O).bind λd c=>match d with
 | .bl b=>.ok (.bl (!b)) c
 | _=>.no
theorem Sw{a:Expr}{c:Pos}{op}{m:M D}(h:VE X md P a m):VE X md P (.BoolOp op [a] c) m:=Np h
theorem Sx{a b:Expr}{rest:List Expr}{f:Pos}{u mb:M D}(I:VE X md P a u)(G:VE X md P (.BoolOp .And (b::rest) f) mb):VE X md P (.BoolOp .And (a::b::rest) f) (qZ u mb):=(Nq I G).imp λσ H Q q=>by
 obtain⟨ρ,O,F,T,d,O',r,sl,e,k⟩:=q;obtain⟨x,Z,L,e⟩:=Res.bind_ok e;refine⟨ρ,_,F,T,_,_,r,sl,L,λv W y g j n E=>?_⟩
 cases x with
 |bl c =>
  refine⟨c,Rp.unB E,?_⟩
  cases c with
  |true =>
   rw[if_pos rfl];exact⟨ρ,_,y,g,_,_,n,sl.step j,e,λB U Y m J C l=>k B U Y m (j.trans J) C l⟩
  |false =>
   rw[if_neg zh];cases e;exact k _ W y g j n Rp.bl
 | _=>cases e
def mIf(t:M Bool)(a b:M D):M D:=λρ O=>(t ρ O).bind λc d=>if c=true then a ρ d else b ρ d
theorem Sy(J:fj R){c a b:Expr}{E:Pos}{mc:M Bool}{I mb:M D}(T:TsE X md P c mc)(l:PE X a (tM X.K X.mg md P R I))(U:PE X b (tM X.K X.mg md P R mb)):PE X (.IfExp c a b E) (tM X.K X.mg md P R (mIf mc I mb)):=(Nr T l U).imp λσ H Q q=>by
 obtain⟨ρ,O,F,Y,d,O',r,sl,e,k⟩:=q;obtain⟨x,Z,W,e⟩:=Res.bind_ok e;refine⟨ρ,_,F,Y,_,_,r,sl,W,λH1 L m j G=>?_⟩
 cases x with
 |true =>
  rw[if_pos rfl] at e ⊢;exact⟨ρ,_,L,m,_,_,G,sl.step j,e,λn B C g y u f=>k n B C g (j.trans y) u (J _ _ _ _ _ _ _ (λa l=>j.dm a l) f)⟩
 |false =>
  rw[if_neg zh] at e ⊢;exact⟨ρ,_,L,m,_,_,G,sl.step j,e,λn B C g y u f=>k n B C g (j.trans y) u (J _ _ _ _ _ _ _ (λa l=>j.dm a l) f)⟩
theorem jU{c a b:Expr}{d:Pos}{mc:M Bool}{f mb:M D}(g:TsE X md P c mc)(l:VE X md P a f)(j:VE X md P b mb):VE X md P (.IfExp c a b d) (mIf mc f mb):=Sy cM g l j
end
section
variable {K:Frag}{mg:Str->Option Value}{md:List Md}{P:Pt}{R:RR}{ρ:aA}{σ:St}{H F H' F':Hp}{as as':List Addr}{O O':aq}
theorem SlO.set{i:Nat}{m:Md}{v:V}{d:D}(s:SlO K md P ρ σ H F as)(q:md[i]?=some m)(C:m≠.s)(hv:fL P K H F as m v d)
  (E:∀(a:Addr) (ds:List D) (j:Nat) (es:List D),m=.o->v=.ref a->d=.lst ds->i≠j->md[j]?=some .o->ρ[j]?=some (some (.lst es))->σ[j]?≠some (some (.ref a))):SlO K md P (ρ.set i (some d)) (σ.set i (some v)) H F as:=by
 have g:i<md.length:=(zr.mp q).1;refine⟨by rw[jc];exact s.len,by rw[jc];exact s.len',s.pd,λj J Q B u=>?_,λj k a ds es h1 h2 h3 h4 n l=>?_,λx L=>?_⟩
 ·by_cases h:i=j
  ·subst h;rw[q] at B;cases B;rw[zP (by rw[s.len'];exact g)] at u;cases u;exact⟨v,zP (by rw[s.len];exact g),hv⟩
  ·rw[zt h] at u;rw[zt h];exact s.sl j J Q B u
 ·by_cases f:i=j
  ·by_cases c:i=k
   ·rw[<-f,<-c]
   ·exfalso
    subst f;rw[q] at h1;cases h1;rw[zP (by rw[s.len'];exact g)] at h3;rw[zP (by rw[s.len];exact g)] at n;rw[zt c] at h4 l;cases h3;cases n;exact E a ds k es rfl rfl rfl c h2 h4 l
  ·by_cases c:i=k
   ·exfalso
    subst c;rw[q] at h2;cases h2;rw[zP (by rw[s.len'];exact g)] at h4;rw[zP (by rw[s.len];exact g)] at l;rw[zt f] at h3 n;cases h4;cases l;exact E a es j ds rfl rfl rfl f h1 h3 n
   ·rw[zt f] at h3 n;rw[zt c] at h4 l;exact s.inj j k a ds es h1 h2 h3 h4 n l
 ·obtain⟨y,I,G⟩:=s.pin x L
  have r:i≠x.1:=λz=>by
   rw[<-z,q] at y;exact C (zz y)
  exact⟨y,by rw[zt r];exact I,by rw[zt r];exact G⟩
theorem SlO.setV{i:Nat}{v:V}{d:D}(s:SlO K md P ρ σ H F as)(a:md[i]?=some .v)(hv:Rp K F as v d):SlO K md P (ρ.set i (some d)) (σ.set i (some v)) H F as :=
 s.set a (by decide) hv λ_ _ _ _ z=>nomatch z
theorem SlO.setN{i:Nat}{v:V}{d:D}(s:SlO K md P ρ σ H F as)(c:md[i]?=some .o)(a:iB d=true)(hv:Rp K F as v d):SlO K md P (ρ.set i (some d)) (σ.set i (some v)) H F as :=
 s.set c (by decide) (.inl ⟨a,hv⟩) λ_ _ _ _ _ _ z=>by subst z;cases a
theorem SlO.setO{i:Nat}{v:V}{d:D}{c:Hp}(s:SlO K md P ρ σ c F as)(g:Gr c F as H' F' as')(l:md[i]?=some .o)(hv:Ow K (λa=>c a=none) H' F' as' v d):SlO K md P (ρ.set i (some d)) (σ.set i (some v)) H' F' as':=by
 have s':=s.step g
 rcases hv with⟨u,hv⟩ | ⟨a,q,J,rfl,rfl,I,G,E,m,C⟩
 ·exact s'.setN l u hv
 ·refine s'.set l (by decide) (.inr ⟨a,q,J,rfl,rfl,I,G,E,λp=>s.pd a p m,C⟩) λb T j U _ B hd Q x y r=>?_
  cases B;obtain⟨v,h1,h2⟩:=s.sl j .o _ x y;rw[r] at h1;cases h1
  rcases h2 with⟨h2,_⟩ | ⟨W,L,_,n,_,f,_⟩
  ·cases h2
  ·cases n;rw[m] at f;cases f
end
section
variable {X:Cx}{md:List Md}{P:Pt}{R:RR}
def bz:MS:=λρ O=>.nx ρ O
def aC(a b:MS):MS:=λρ O=>match a ρ O with
 | .nx ρ' O'=>b ρ' O'
 |r=>r
theorem cP:VSs X md P R [] bz:=Nx.imp λD σ H q=>by
 obtain⟨ρ,O,F,a,r,s,k⟩:=q;exact k σ H F a GrS.refl r s
theorem iD{K:Frag}{mg:Str->Option Value}{D:Ends}{H F x y:Hp}{u q:List Addr}(g:GrS P H F u x y q){f:Fl}(k:ju K mg md P R D H F u f):ju K mg md P R D x y q f:=by
 cases f with
 |nx n r=>exact λa l m c j=>k a l m c (g.trans j)
 |bk n r=>exact λa l m c j=>k a l m c (g.trans j)
 |ct n r=>exact λa l m c j=>k a l m c (g.trans j)
 |rt d r=>exact λa l m c j=>k a l m c (g.trans j)
 |ex _ _=>exact k
 |no=>exact k
theorem aP{st:Stmt}{rest:List Stmt}{a b:MS}(h1:VS X md P R st a)(h2:VSs X md P R rest b):VSs X md P R (st::rest) (aC a b):=(Ny h1 h2).imp λD σ H q=>by
 obtain⟨ρ,O,F,n,r,s,k⟩:=q;refine⟨ρ,O,F,n,r,s,?_⟩;unfold aC at k
 cases e:a ρ O with
 |nx c f =>
  rw[e] at k;dsimp only at k
  exact λy B u j g m l=>⟨c,f,u,j,m,l,iD g k⟩
 |bk c f=>rw[e] at k;exact k
 |ct c f=>rw[e] at k;exact k
 |rt d f=>rw[e] at k;exact k
 |ex x f=>rw[e] at k;exact k
 |no=>rw[e] at k;exact k
theorem aY{st:Stmt}{a:MS}(h1:VS X md P R st a):VSs X md P R [st] a:=Cz h1
def oV(m:M D):MS:=λρ O=>match m ρ O with
 | .ok _ O'=>.nx ρ O'
 | .ex x O'=>.ex x O'
 | .no=>.no
theorem SJ{e:Expr}{a:Pos}{m:M D}(h:SE X md P e m)(hs:swapsWith e none a.line X.env=pure false:=by rfl):VS X md P R (.Expr e a) (oV m):=(CG h hs).imp λD σ H q=>by
 obtain⟨ρ,O,F,c,r,s,k⟩:=q;unfold oV at k
 cases e:m ρ O with
 |ok d f =>
  rw[e] at k;exact⟨ρ,_,F,c,_,_,r,s,e,λv H' F' as' g r' _=>k σ H' F' as' g.toS r' (s.step g)⟩
 |ex x f=>rw[e] at k;exact False.elim k
 |no=>rw[e] at k;exact False.elim k
def aZ(m:M D):MS:=λρ O=>match m ρ O with
 | .ok d O'=>.rt d O'
 | .ex x O'=>.ex x O'
 | .no=>.no
theorem Fb(u:fj R){e:Expr}{c:Pos}{m:M D}(h:PE X e (tM X.K X.mg md P R m)):VS X md P R (.Return (some e) c) (aZ m):=(CJ h).imp λD σ H q=>by
 obtain⟨ρ,O,F,y,r,s,k⟩:=q;unfold aZ at k
 cases e:m ρ O with
 |ok d B =>
  rw[e] at k;exact⟨ρ,_,F,y,_,_,r,s,e,λv C E f g j l=>k v C E f g.toS j (u _ _ _ _ _ _ _ (λa n p=>s.pd a p n) l)⟩
 |ex x B=>rw[e] at k;exact False.elim k
 |no=>rw[e] at k;exact False.elim k
theorem cB{e:Expr}{a:Pos}{m:M D}(h:VE X md P e m):VS X md P (rV X.K) (.Return (some e) a) (aZ m):=Fb cM h
theorem jV{e:Expr}{a:Pos}{m:M D}(h:OE X md P e m):VS X md P (rO X.K) (.Return (some e) a) (aZ m):=Fb fB h
theorem q9(i:Nat){x:Str}{p f:Pos}(m:md[i]?=some .o:=by rfl)(hN:X.N[i]?=some x:=by rfl)(l:Vis X.env.scope x:=by first | exact Or.inl rfl | exact Or.inr (Or.inl rfl) | exact Or.inr (Or.inr rfl))
  (hd:(x == ("__debug__":Str))=false:=by decide) (g:(x == ("__classdict__":Str))=false:=by decide):VS X md P (rO X.K) (.Return (some (.Name x p)) f) (aZ (aa i)):=(CJ (kJ (i:=i) hN l hd g)).imp λD σ H q=>by
 obtain⟨ρ,O,F,I,r,s,k⟩:=q;unfold aZ at k
 cases e:aa i ρ O with
 |ok d J =>
  rw[e] at k;obtain⟨c,rfl⟩:=qY e;obtain⟨v,h1,h2⟩:=s.sl i .o d m c;refine⟨v,h1,k v H F I GrS.refl r ?_⟩
  rcases h2 with h2 | ⟨a,j,G,c,C,B,E,y,u,n⟩
  ·exact .inl h2
  ·exact .inr ⟨a,j,G,c,C,B,E,y,u,n⟩
 |ex x J=>rw[e] at k;exact False.elim k
 |no=>rw[e] at k;exact False.elim k
def bc(t:M Bool)(a b:MS):MS:=λρ O=>match t ρ O with
 | .ok c O'=>if c=true then a ρ O' else b ρ O'
 | .ex x O'=>.ex x O'
 | .no=>.no
theorem cC{c:Expr}{a b:List Stmt}{j:Pos}{t:M Bool}{m mb:MS}(u:TsE X md P c t)(B:VSs X md P R a m)(y:VSs X md P R b mb):VS X md P R (.If c a b j) (bc t m mb):=(NQ u B y).imp λD σ H q=>by
 obtain⟨ρ,O,F,C,r,s,k⟩:=q;unfold bc at k
 cases e:t ρ O with
 |ok c f =>
  rw[e] at k;refine⟨ρ,_,F,C,_,_,r,s,e,λE n d g l=>?_⟩;dsimp only at k
  cases c with
  |true =>
   rw[if_pos rfl] at k ⊢;exact⟨ρ,f,n,d,l,s.step g,iD g.toS k⟩
  |false =>
   rw[if_neg zh] at k ⊢;exact⟨ρ,f,n,d,l,s.step g,iD g.toS k⟩
 |ex x f=>rw[e] at k;exact False.elim k
 |no=>rw[e] at k;exact False.elim k
def aH(i:Nat)(m:M D):MS:=λρ O=>match m ρ O with
 | .ok d O'=>.nx (ρ.set i (some d)) O'
 | .ex x O'=>.ex x O'
 | .no=>.no
theorem Fd{K:Frag}{mg:Str->Option Value}{i:Nat}{m:M D}{t:TE}(l:md[i]?=some .v)(j:∀σ H Q,tM K mg md P (rV K) m σ H Q->t σ H Q){D:Ends}{σ:St}{H:Hp}(q:tMS K mg md P R (aH i m) D σ H):qK t (oG i) D σ H:=by
 obtain⟨ρ,O,F,n,r,s,k⟩:=q;unfold aH at k
 cases e:m ρ O with
 |ok d u =>
  rw[e] at k;exact j _ _ _ ⟨ρ,_,F,n,_,_,r,s,e,λv y B a g c f=>k _ y B a g.toS c ((s.step g).setV l f)⟩
 |ex x u=>rw[e] at k;exact False.elim k
 |no=>rw[e] at k;exact False.elim k
theorem SM{K:Frag}{mg:Str->Option Value}{i:Nat}{m:M D}{t:TE}(l:md[i]?=some .o)(j:∀σ H Q,tM K mg md P (rO K) m σ H Q->t σ H Q){D:Ends}{σ:St}{H:Hp}(q:tMS K mg md P R (aH i m) D σ H):qK t (oG i) D σ H:=by
 obtain⟨ρ,O,F,n,r,s,k⟩:=q;unfold aH at k
 cases e:m ρ O with
 |ok d u =>
  rw[e] at k;exact j _ _ _ ⟨ρ,_,F,n,_,_,r,s,e,λv y B a g c f=>k _ y B a g.toS c (s.setO g l f)⟩
 |ex x u=>rw[e] at k;exact False.elim k
 |no=>rw[e] at k;exact False.elim k
theorem bu{i:Nat}{x:Str}{e:Expr}{a pos':Pos}{m:M D}(hN:X.N.Nodup)(g:X.N[i]?=some x)(c:Loc X.env.scope x)(h:VE X md P e m)(f:md[i]?=some .v:=by rfl)(d:swapsWith e (some (.Name x pos')) a.line X.env=pure false:=by rfl)
  (j:X.fn x=true\/X.env.scope.names.lookup x=some .local:=by first | exact .inl rfl | exact .inr rfl | assumption):VS X md P R (.Assign [.Name x pos'] e a) (aH i m):=(CK (i:=i) hN g c h d j).imp λD σ H q=>Fd f (λ_ _ _ z=>z) q
theorem oW{i:Nat}{x:Str}{e:Expr}{a pos':Pos}{m:M D}(hN:X.N.Nodup)(g:X.N[i]?=some x)(c:Loc X.env.scope x)(h:OE X md P e m)(f:md[i]?=some .o:=by rfl)(d:swapsWith e (some (.Name x pos')) a.line X.env=pure false:=by rfl)
  (j:X.fn x=true\/X.env.scope.names.lookup x=some .local:=by first | exact .inl rfl | exact .inr rfl | assumption):VS X md P R (.Assign [.Name x pos'] e a) (aH i m):=(CK (i:=i) hN g c h d j).imp λD σ H q=>SM f (λ_ _ _ z=>z) q
abbrev MG:=D->aA->Option aA
def tMG(K:Frag)(mg:Str->Option Value)(md:List Md)(P:Pt)(g:MG):TG:=λv σ H Q=>∃ρ O F f d c,RlO K mg O H F f/\SlO K md P ρ σ H F f/\Rp K F f v d/\g d ρ=some c/\∀a,SlO K md P c a H F f->Q a H
def SN(K:Frag)(mg:Str->Option Value)(md:List Md)(P:Pt)(g:List D->aA->Option aA):TGs:=λj σ H Q=>∃ρ O F d f c,RlO K mg O H F d/\SlO K md P ρ σ H F d/\Rps K F d j f/\g f ρ=some c/\∀a,SlO K md P c a H F d->Q a H
def VG(X:Cx)(md:List Md)(P:Pt)(a:Expr)(g:MG):Prop:=PG X a (tMG X.K X.mg md P g)
def VGs(X:Cx)(md:List Md)(P:Pt)(a:List Expr)(g:List D->aA->Option aA):Prop:=PGs X a (SN X.K X.mg md P g)
theorem PG.imp{e:Expr}{t t':TG}(h:PG X e t)(k:∀v σ H Q,t' v σ H Q->t v σ H Q):PG X e t':=λpins s σ H v u Q I r q=>h pins s σ H v u Q I r (k v σ H Q q)
theorem PGs.imp{e:List Expr}{t t':TGs}(h:PGs X e t)(k:∀v σ H Q,t' v σ H Q->t v σ H Q):PGs X e t':=λpins s σ H v u Q I r q=>h pins s σ H v u Q I r (k v σ H Q q)
def mgN(i:Nat):MG:=λd ρ=>some (ρ.set i (some d))
theorem cU{i:Nat}{x:Str}{a:Pos}(hN:X.N.Nodup)(j:X.N[i]?=some x)(c:Loc X.env.scope x)(g:md[i]?=some .v:=by rfl)(l:X.fn x=true\/X.env.scope.names.lookup x=some .local:=by first | exact .inl rfl | exact .inr rfl | assumption):VG X md P (.Name x a) (mgN i):=
 (NT (i:=i) hN j c l).imp λv σ H Q q=>by
  obtain⟨ρ,O,F,n,d,m,r,s,f,e,k⟩:=q;cases e;exact k _ (s.setV g f)
def gJ:List D->aA->Option aA:=λa ρ=>match a with
 | []=>some ρ
 | _=>none
def cG(g:MG)(r:List D->aA->Option aA):List D->aA->Option aA:=λa ρ=>match a with
 |d::a=>(g d ρ).bind λc=>r a c
 | []=>none
theorem rm:VGs X md P [] gJ:=N6.imp λv σ H Q q=>by
 obtain⟨ρ,O,F,f,c,d,r,s,a,e,k⟩:=q
 cases c with
 |nil=>cases e;exact⟨a.un0,k _ s⟩
 |cons _ _=>cases e
theorem gf{e:Expr}{es:List Expr}{g:MG}{r:List D->aA->Option aA}(h1:VG X md P e g)(h2:VGs X md P es r)(hs:(assignEach (e::es) X.env).map (·.2)=assign e X.env::(assignEach es X.env).map (·.2):=by rfl):VGs X md P (e::es) (cG g r):=
 (N7 h1 h2 hs).imp λv σ H Q q=>by
  obtain⟨ρ,O,F,j,a,c,f,s,u,e,k⟩:=q
  cases a with
  |nil=>cases e
  |cons d a =>
   obtain⟨x,m,rfl,n,y⟩:=u.un;unfold cG at e;dsimp only at e
   cases e1:g d ρ with
   |none=>rw[e1] at e;cases e
   |some ρ1 =>
    rw[e1] at e;exact⟨x,m,rfl,ρ,O,F,j,d,ρ1,f,s,n,e1,λB l=>⟨ρ1,O,F,j,a,c,f,l,y,e,k⟩⟩
def gh(n:Nat)(r:List D->aA->Option aA):MG:=λd ρ=>match d with
 | .tup ds=>if ds.length=n then r ds ρ else none
 | _=>none
theorem rn{es:List Expr}{f:Pos}{k:Nat}{r:List D->aA->Option aA}(n:Nat)(y:X.calm=true)(h:VGs X md P es r)(u:(assignEach es X.env).length=n:=by rfl)(g:(assignEach es X.env).findIdx? (·.1)=none:=by rfl):VG X md P (.Tuple es k f) (gh n r):=
 (Oa y h u g).imp λv σ H Q q=>by
  obtain⟨ρ,O,F,B,d,c,j,s,m,e,k⟩:=q
  cases d with
  |tup ds =>
   obtain⟨a,l,rfl,h1,h2⟩:=m.unT;unfold gh at e;dsimp only at e;split at e
   ·rename_i x;exact⟨a,l,rfl,Same.seqT j.fh h1,by rw[h2.length];exact x,ρ,O,F,B,ds,c,j,s,h2,e,k⟩
   ·cases e
  | _=>cases e
def SQ(m:M D)(g:MG):MS:=λρ O=>match m ρ O with
 | .ok d O'=>match g d ρ with
  |some a=>.nx a O'
  |none=>.no
 | .ex x O'=>.ex x O'
 | .no=>.no
end
structure lD(K:Frag)(mg:Str->Option Value)(P:Pt)(J:It)(ds:List D)(H F:Hp)(as:List Addr):Prop where
 turn:∀(i:Nat) (d:D) (H2 F2:Hp) (as2:List Addr),GrS P H F as H2 F2 as2->(∃O,RlO K mg O H2 F2 as2)->ds[i]?=some d->J.go i H2/\∀x H3,J.yld i H2 x H3->∃F3,Gr H2 F2 as2 H3 F3 as2/\(∀O,RlO K mg O H2 F2 as2->RlO K mg O H3 F3 as2)/\Rp K F3 as2 x d
 stop:∀(H2 F2:Hp) (as2:List Addr),GrS P H F as H2 F2 as2->(∃O,RlO K mg O H2 F2 as2)->J.stop ds.length H2
structure Fe(K:Frag)(mg:Str->Option Value)(J:It)(ds:List D)(H F:Hp)(as:List Addr):Prop where
 turn:∀(i:Nat) (d:D) (H2 F2:Hp) (as2:List Addr),Gr H F as H2 F2 as2->(∃O,RlO K mg O H2 F2 as2)->ds[i]?=some d->J.go i H2/\∀x H3,J.yld i H2 x H3->∃F3,Gr H2 F2 as2 H3 F3 as2/\(∀O,RlO K mg O H2 F2 as2->RlO K mg O H3 F3 as2)/\Rp K F3 as2 x d
 stop:∀(H2 F2:Hp) (as2:List Addr),Gr H F as H2 F2 as2->(∃O,RlO K mg O H2 F2 as2)->J.stop ds.length H2
theorem lD.e{K:Frag}{mg:Str->Option Value}{P:Pt}{J:It}{ds:List D}{H F:Hp}{j:List Addr}(h:lD K mg P J ds H F j):Fe K mg J ds H F j:=⟨λi d c f a g=>h.turn i d c f a g.toS,λc f a g=>h.stop c f a g.toS⟩
def Ff(K:Frag)(mg:Str->Option Value)(md:List Md)(P:Pt)(m:M (List D)):TI:=λσ H Q=>∃ρ O F d g j,RlO K mg O H F d/\SlO K md P ρ σ H F d/\m ρ O=.ok g j /\
 ∀J c f a,Gr H F d c f a->RlO K mg j c f a->Fe K mg J g c f a->Q J c
def VIc(X:Cx)(md:List Md)(P:Pt)(a iter:Expr)(m:M (List D)):Prop:=PI X a iter (Ff X.K X.mg md P m)
def tMI(K:Frag)(mg:Str->Option Value)(md:List Md)(P:Pt)(m:M (List D)):TI:=λσ H Q=>∃ρ O F d g j,RlO K mg O H F d/\SlO K md P ρ σ H F d/\m ρ O=.ok g j /\
 ∀J c f a,Gr H F d c f a->RlO K mg j c f a->lD K mg P J g c f a->Q J c
def VI(X:Cx)(md:List Md)(P:Pt)(a iter:Expr)(m:M (List D)):Prop:=PI X a iter (tMI X.K X.mg md P m)
section
variable {X:Cx}{md:List Md}{P:Pt}{R:RR}
theorem PI.imp{a e:Expr}{t t':TI}(h:PI X a e t)(k:∀σ H Q,t' σ H Q->t σ H Q):PI X a e t':=λpins s σ H Q I q=>h pins s σ H Q I (k σ H Q q)
theorem vU{c e:Expr}{m:M (List D)}(h:VI X md P c e m):VIc X md P c e m:=h.imp λσ H Q q=>by
 obtain⟨ρ,O,F,l,j,n,r,s,e,k⟩:=q;exact⟨ρ,O,F,l,j,n,r,s,e,λJ u x a g d f=>k J u x a g d f.e⟩
def b8(g:MG)(b:MS):List D->MS
 | [],ρ,O=>.nx ρ O
 |d::ds,ρ,O=>match g d ρ with
  |none=>.no
  |some a=>match b a O with
   | .nx ρ2 O2=>b8 g b ds ρ2 O2
   | .ct ρ2 O2=>b8 g b ds ρ2 O2
   | .bk ρ2 O2=>.nx ρ2 O2
   |r=>r
def dq(m:M (List D))(g:MG)(b:MS):MS:=λρ O=>match m ρ O with
 | .ok ds O'=>b8 g b ds ρ O'
 | .ex x O'=>.ex x O'
 | .no=>.no
theorem SX{K:Frag}{mg:Str->Option Value}{m:M (List D)}{g:MG}{b:MS}{D:Ends}{σ:St}{H:Hp}(q:tMS K mg md P R (dq m g b) D σ H):CQ (tMI K mg md P m) (tMG K mg md P g) (tMS K mg md P R b) D σ H:=by
 obtain⟨ρ,O,F,as,r,s,k⟩:=q;unfold dq at k
 cases e:m ρ O with
 |ex x E=>rw[e] at k;exact False.elim k
 |no=>rw[e] at k;exact False.elim k
 |ok ds O1 =>
  rw[e] at k;dsimp only at k;refine⟨ρ,_,F,as,_,_,r,s,e,λJ H1 F1 I g1 r1 hJ=>?_⟩;have k1:=iD (R:=R) g1.toS k;refine⟨λi m Y Q=>m=ds.length - i/\i<=ds.length/\∃C E T c,GrS P H1 F1 I Q T c/\RlO K mg E Q T c/\SlO K md P C Y Q T c/\ju K mg md P R D Q T c (b8 g b (ds.drop i) C E),⟨ds.length,by simp,Nat.zero_le _,ρ,O1,F1,I,GrS.refl,r1,s.step g1,by rw[List.drop_zero];exact k1⟩,?_⟩;rintro i n Y Q ⟨rfl,hi,C,E,T,c,g',r',s',k'⟩
  by_cases Z:i<ds.length
  ·have hd:=zu Z;obtain⟨go,yl⟩:=hJ.turn i _ Q T c g' ⟨E,r'⟩ hd;rw[List.drop_eq_getElem_cons Z] at k';refine .inr ⟨go,λl B=>∃j L u a,GrS P H1 F1 I B u a/\RlO K mg L B u a/\SlO K md P j l B u a/\ju K mg md P R D B u a (b8 g b (ds.drop (i+1)) j L),λl B h2=>⟨ds.length - (i+1),by omega,rfl,Z,h2⟩,λx H3 y=>?_⟩;obtain⟨F3,g3,r3,hx⟩:=yl x H3 y;have r3':=r3 E r';unfold b8 at k'
   cases eg:g ds[i] C with
   |none=>rw[eg] at k';exact False.elim k'
   |some ρ1 =>
    rw[eg] at k';dsimp only at k';refine⟨C,E,F3,c,ds[i],ρ1,r3',s'.step g3,hx,eg,λσ4 s4=>?_⟩;refine⟨ρ1,E,F3,c,r3',s4,?_⟩;have g4:GrS P H1 F1 I H3 F3 c:=g'.trans g3.toS
    have keep:=λ{f}=>iD (K:=K) (mg:=mg) (md:=md) (R:=R) (D:=D) (f:=f) (g3.toS (P:=P))
    cases eb:b ρ1 E with
    |nx j L =>
     rw[eb] at k'
     exact λl B u a G W U=>⟨j,L,u,a,g4.trans G,W,U,iD G (keep k')⟩
    |ct j L =>
     rw[eb] at k'
     exact λl B u a G W U=>⟨j,L,u,a,g4.trans G,W,U,iD G (keep k')⟩
    |bk j L =>
     rw[eb] at k'
     exact λl B u a G W U=>k' l B u a (g3.toS.trans G) W U
    |rt d L =>
     rw[eb] at k'
     exact λv B u a G W U=>k' v B u a (g3.toS.trans G) W U
    |ex _ _=>rw[eb] at k';exact False.elim k'
    |no=>rw[eb] at k';exact False.elim k'
  ·have hi':i=ds.length:=by omega
   subst hi';refine .inl ⟨hJ.stop Q T c g' ⟨E,r'⟩,?_⟩;rw[List.drop_length] at k';exact k' Y Q T c GrS.refl r' s'
theorem jy{a iter:Expr}{body:List Stmt}{c:Pos}{m:M (List D)}{g:MG}{b:MS}(n:X.calm=true)(j:VI X md P a iter m)(l:VG X md P a g)(r:VSs X md P R body b)(f:PassesOwn (model X.prog X.w) X.A X.env X.xe:=by exact PassesOwn.never)
  (d:∀x,foldedSetIterable iter X.env x=pure x:=by intro _;rfl):VS X md P R (.For a iter body [] c) (dq m g b):=(Ot f n j l r d).imp λ_ _ _ q=>SX q
def dU(t:M Bool)(b:MS):Nat->MS
 | 0,_,_=>.no
 |n+1,ρ,O=>match t ρ O with
  | .ok true O1=>match b ρ O1 with
   | .nx ρ2 O2=>dU t b n ρ2 O2
   | .ct ρ2 O2=>dU t b n ρ2 O2
   | .bk ρ2 O2=>.nx ρ2 O2
   |r=>r
  | .ok false O1=>.nx ρ O1
  | .ex x O'=>.ex x O'
  | .no=>.no
def gK(n:Nat)(t:M Bool)(b:MS):MS:=dU t b n
theorem S5{K:Frag}{mg:Str->Option Value}{n:Nat}{t:M Bool}{b:MS}{D:Ends}{σ:St}{H:Hp}(q:tMS K mg md P R (gK n t b) D σ H):CN (tMT K mg md P t) (tMS K mg md P R b) D σ H:=by
 refine⟨λn j I=>tMS K mg md P R (dU t b n) D j I,⟨n,q⟩,?_⟩;rintro m σ1 H1 ⟨ρ,O,F,as,r,s,k⟩
 cases m with
 |zero=>exact False.elim k
 |succ m =>
  unfold dU at k
  cases e:t ρ O with
  |ex x U=>rw[e] at k;exact False.elim k
  |no=>rw[e] at k;exact False.elim k
  |ok c O1 =>
   rw[e] at k;refine⟨ρ,_,F,as,_,_,r,s,e,λT L G C J=>?_⟩
   cases c with
   |false =>
    rw[if_neg zh];exact k σ1 T L G C.toS J (s.step C)
   |true =>
    rw[if_pos rfl];refine⟨λj I=>tMS K mg md P R (dU t b m) D j I,λj I Q=>⟨m,zZ m,Q⟩,ρ,O1,L,G,J,s.step C,?_⟩;dsimp only at k
    have keep:=λ{f}=>iD (K:=K) (mg:=mg) (md:=md) (R:=R) (D:=D) (f:=f) (C.toS (P:=P))
    cases eb:b ρ O1 with
    |nx ρ2 O2 =>
     rw[eb] at k
     exact λg E B a y u l=>⟨ρ2,O2,B,a,u,l,iD y (keep k)⟩
    |ct ρ2 O2 =>
     rw[eb] at k
     exact λg E B a y u l=>⟨ρ2,O2,B,a,u,l,iD y (keep k)⟩
    |bk ρ2 O2 =>
     rw[eb] at k
     exact λg E B a y u l=>k g E B a (C.toS.trans y) u l
    |rt d O2 =>
     rw[eb] at k
     exact λg E B a y u l=>k g E B a (C.toS.trans y) u l
    |ex _ _=>rw[eb] at k;exact False.elim k
    |no=>rw[eb] at k;exact False.elim k
theorem vV(n:Nat){c:Expr}{body:List Stmt}{a:Pos}{t:M Bool}{b:MS}(f:TsE X md P c t)(g:VSs X md P R body b)(d:PassesOwn (model X.prog X.w) X.A X.env X.xe:=by exact PassesOwn.never):VS X md P R (.While c body [] a) (gK n t b):=
 (Oc d f g).imp λ_ _ _ q=>S5 q
def cX(g:MG)(t:M Bool)(m:M D):List D->aA->aq->List D->Res (List D)
 | [],ρ,O,acc=>.ok acc O
 |d::ds,ρ,O,acc=>match g d ρ with
  |none=>.no
  |some a=>match t a O with
   | .ok true O1=>match m a O1 with
    | .ok y O2=>cX g t m ds a O2 (acc++[y])
    | .ex x O'=>.ex x O'
    | .no=>.no
   | .ok false O1=>cX g t m ds a O1 acc
   | .ex x O'=>.ex x O'
   | .no=>.no
def jW(own:Nat)(cap:List Nat)(ρ:aA):aA:=List.replicate own none++cap.map λj=>(ρ[j]?).join
def dJ(m:M (List D))(own:Nat)(cap:List Nat)(g:MG)(t:M Bool)(e:M D):M D:=λρ O=>(m ρ O).bind λa f=>if a.length<=1000000 then(cX g t e a (jW own cap ρ) f []).bind λc d=>.ok (.lst c) d else .no
def fM:M Bool:=λ_ O=>.ok true O
def cMd(own:Nat)(cap:List Nat)(md:List Md):List Md:=List.replicate own .v++cap.map λj=>match md[j]? with
 |some .v=>.v
 | _=>.s
theorem S6{K:Frag}{ρ:aA}{σ:St}{H F:Hp}{y:List Addr}{own:List Str}{cap:List Nat}(s:SlO K md P ρ σ H F y)(B:∀j∈cap,j<md.length):SlO K (cMd own.length cap md) (Pt.all H) (jW own.length cap ρ) (compSt own cap σ) H F y:=by
 refine⟨by simp[compSt,cMd],by simp[jW,cMd],λa h=>h,λi m d f c=>?_,λi j a n G h1=>?_,λ_ z=>nomatch z⟩
 ·unfold jW at c;unfold cMd at f;unfold compSt
  by_cases g:i<own.length
  ·rw[zB (by simpa using g),List.getElem?_replicate_of_lt g] at c;cases c
  ·have hi':own.length<=i:=Nat.le_of_not_lt g;rw[zH (by simpa using hi'),List.length_replicate,zD] at c f;rw[zH (by simpa using hi'),zf,zD]
   cases q:cap[i - own.length]? with
   |none=>rw[q] at c;cases c
   |some j =>
    rw[q] at f c;simp only[Option.map_some,Option.some.injEq] at f c ⊢
    cases q2:ρ[j]? with
    |none=>rw[q2] at c;cases c
    |some o =>
     rw[q2] at c;have e2':o=some d:=c;subst e2';obtain⟨C,v,h1,h2,h3⟩:=s.get q2;rw[h1] at f;refine⟨v,by rw[h2];rfl,?_⟩
     cases C with
     |v=>dsimp only at f;subst f;exact h3
     |s =>
      dsimp only at f;subst f
      rcases h3 with h3 | ⟨a,r,n,f,c,l,x,E,u⟩
      ·exact .inl h3
      ·exact .inr ⟨a,r,n,f,c,l,x,(show H a≠none by rw[l];exact λz=>nomatch z),u⟩
     |o =>
      dsimp only at f;subst f
      rcases h3 with⟨_,h3⟩ | ⟨a,r,n,f,c,l,I,x,E,u⟩
      ·exact .inl h3
      ·exact .inr ⟨a,r,n,f,c,l,x,(show H a≠none by rw[l];exact λz=>nomatch z),u⟩
 ·exfalso
  unfold cMd at h1
  by_cases g:i<own.length
  ·rw[zB (by simpa using g),List.getElem?_replicate_of_lt g] at h1;cases h1
  ·have hi':own.length<=i:=Nat.le_of_not_lt g;rw[zH (by simpa using hi'),List.length_replicate,zD] at h1
   cases q:cap[i - own.length]? with
   |none=>rw[q] at h1;cases h1
   |some j =>
    rw[q] at h1;simp only[Option.map_some,Option.some.injEq] at h1
    split at h1<;>cases h1
end
section
variable {X:Cx}{md:List Md}{P:Pt}{R:RR}
def xM(K:Frag)(mg:Str->Option Value)(md:List Md)(R:RR)(m:M D):TE:=λσ H Q=>∃P,tM K mg md P R m σ H Q
def xMT(K:Frag)(mg:Str->Option Value)(md:List Md)(m:M Bool):TT:=λσ H Q=>∃P,tMT K mg md P m σ H Q
def xMG(K:Frag)(mg:Str->Option Value)(md:List Md)(g:MG):TG:=λv σ H Q=>∃P,tMG K mg md P g v σ H Q
theorem xm{e:Expr}{m:M D}(h:∀P,PE X e (tM X.K X.mg md P R m)):PE X e (xM X.K X.mg md R m):=λpins s σ H Q I ⟨P,q⟩=>h P pins s σ H Q I q
theorem xmg{e:Expr}{g:MG}(h:∀P,VG X md P e g):PG X e (xMG X.K X.mg md g):=λpins s σ H v u Q I r ⟨P,q⟩=>h P pins s σ H v u Q I r q
theorem xmt{e:List Expr}{m:M Bool}(h:∀P,jQ X e (tMT X.K X.mg md P m)):jQ X e (xMT X.K X.mg md m):=λpins s σ H Q I ⟨P,q⟩=>h P pins s σ H Q I q
def VIf(X:Cx)(md:List Md)(P:Pt)(e:List Expr)(m:M Bool):Prop:=jQ X e (tMT X.K X.mg md P m)
theorem oX:VIf X md P [] fM:=λpins s σ H Q I q=>by
 obtain⟨ρ,O,F,a,d,c,r,s,e,k⟩:=q;cases e;exact Rx pins _ σ H Q I (k H F a Gr.refl r)
theorem vW{c:Expr}{m:M Bool}(h:TsE X md P c m):VIf X md P [c] m:=Ry h
theorem Fg{K:Frag}{mg:Str->Option Value}{m:M (List D)}{own:List Str}{cap:List Nat}{g:MG}{t:M Bool}{e:M D}(hcap:∀j∈cap,j<md.length){σ:St}{H:Hp}{Q:VK}(q:tM K mg md P (rO K) (dJ m own.length cap g t e) σ H Q):
  vL (Ff K mg md P m) own cap (xMG K mg (cMd own.length cap md) g) (xMT K mg (cMd own.length cap md) t) (xM K mg (cMd own.length cap md) (rV K) e) σ H Q:=by
 obtain⟨ρ,O,F,as,d,OZ,r,s,L,k⟩:=q;obtain⟨B,O1,e1,L⟩:=Res.bind_ok L;split at L
 ·rename_i hz;obtain⟨yf,O2,e2,L⟩:=Res.bind_ok L;cases L;refine⟨ρ,_,F,as,_,_,r,s,e1,λJ H1 F1 U g1 r1 hJ=>?_⟩;have sb:=S6 (own:=own) (s.step g1) hcap
  refine⟨λi n Z σ' Y=>n=B.length - i/\i<=B.length/\∃l G C a f,Gr H1 F1 U Y C a/\RlO K mg G Y C a/\SlO K (cMd own.length cap md) (Pt.all H1) l σ' Y C a/\Rps K C a Z f/\f.length<=i /\
   cX g t e (B.drop i) l G f=.ok yf OZ,⟨B.length,by simp,Nat.zero_le _,jW own.length cap ρ,O1,F1,U,[],Gr.refl,r1,sb,Rps.nil,zc _,by rw[List.drop_zero];exact e2⟩,?_⟩
  rintro i n Z σ' Y ⟨rfl,hi,l,G,C,a,f,g',r',s',hy,hl,ec⟩
  by_cases T:i<B.length
  ·obtain⟨go,yl⟩:=hJ.turn i _ Y C a g' ⟨G,r'⟩ (zu T)
   refine .inr ⟨go,?_,λZ σ2 H2=>∃ρ2 O3 F2 E u,Gr H1 F1 U H2 F2 E/\RlO K mg O3 H2 F2 E/\SlO K (cMd own.length cap md) (Pt.all H1) ρ2 σ2 H2 F2 E/\Rps K F2 E Z u/\u.length<=i+1 /\
    cX g t e (B.drop (i+1)) ρ2 O3 u=.ok yf OZ,λys2 σ2 H2 h2=>⟨B.length - (i+1),by omega,rfl,T,h2⟩,λx H3 y=>?_⟩
   ·rw[hy.length]
    have:=gG hz
    omega
   obtain⟨F3,g3,r3,hx⟩:=yl x H3 y;have r3':=r3 G r';have g13:=g'.trans g3;rw[List.drop_eq_getElem_cons T] at ec;unfold cX at ec
   cases eg:g B[i] l with
   |none=>rw[eg] at ec;cases ec
   |some ρ1 =>
    rw[eg] at ec;dsimp only at ec;refine⟨_,l,G,F3,a,B[i],ρ1,r3',s'.step g3,hx,eg,λσ4 s4=>?_⟩
    cases et:t ρ1 G with
    |ex _ _=>rw[et] at ec;cases ec
    |no=>rw[et] at ec;cases ec
    |ok c O4 =>
     rw[et] at ec;refine⟨_,ρ1,G,F3,a,c,O4,r3',s4,et,λH5 F5 as5 I r5=>?_⟩
     cases c with
     |false =>
      rw[if_neg zh];exact⟨ρ1,O4,F5,as5,f,g13.trans I,r5,s4.step I,(hy.gr g3).gr I,by omega,ec⟩
     |true =>
      rw[if_pos rfl];dsimp only at ec
      cases em:e ρ1 O4 with
      |ex _ _=>rw[em] at ec;cases ec
      |no=>rw[em] at ec;cases ec
      |ok yd O6 =>
       rw[em] at ec;refine⟨_,ρ1,O4,F5,as5,yd,O6,r5,s4.step I,em,λvy H7 F7 as7 g7 r7 hvy=>?_⟩;exact⟨ρ1,O6,F7,as7,f++[yd],(g13.trans I).trans g7,r7,(s4.step I).step g7,(((hy.gr g3).gr I).gr g7).snoc hvy,by rw[zn];show f.length+1<=i+1;omega,ec⟩
  ·have hi':i=B.length:=by omega
   subst hi';rw[List.drop_length] at ec;cases ec;refine .inl ⟨hJ.stop Y C a g' ⟨_,r'⟩,?_,λp W=>?_⟩
   ·rw[hy.length];exact zG hl (gG hz)
   ·have hF:C p=none:=by
     cases q:C p with
     |none=>rfl
     |some o=>rw[r'.fh p o q] at W;cases W
    exact k _ _ C a ((g1.trans g').trans (Gr.lay W)) (r'.lay W) (.inr ⟨p,Z,yf,rfl,rfl,bI,hF,λz=>r'.all z W,(g1.trans g').dm p W,hy⟩)
 ·cases L
variable {tg iter elt:Expr}{ifs:List Expr}{scope:Scope}{pos:Pos}{mi:M (List D)}{g:MG}{t:M Bool}{e:M D}
theorem mQ(a:Scope)(c own:List Str)(cap:List Nat)(B:X.calm=true)(r:VIc X md P tg iter mi)
  (u:∀C s H ex P,VG (cF X scope C (bM c own cap) s H ex) (cMd own.length cap md) P tg g) (m:∀C s H ex P,VIf (cF X scope C (bM c own cap) s H ex) (cMd own.length cap md) P ifs t)
  (y:∀C s H ex P,VE (cF X scope C (bM c own cap) s H ex) (cMd own.length cap md) P elt e)
  (d:∀j∈cap,j<md.length:=by decide) (f:X.env.scope=a:=by rfl) (l:X.N=c:=by rfl) (ok:mK a c scope own cap=true:=by decide +kernel) (n:∀x,foldedSetIterable iter X.env x=pure x:=by intro _;rfl):
  OE X md P (.ListComp elt [⟨tg,iter,ifs,0⟩] scope pos) (dJ mi own.length cap g t e):=
 (RD a c own cap B r (λC s H ex=>xmg (u C s H ex)) (λC s H ex=>xmt (m C s H ex)) (λC s H ex=>xm (y C s H ex)) f l ok n).imp λ_ _ _ q=>Fg d q
theorem Fi{i:Nat}{x:Str}{pos' c:Pos}(f:Scope)(l own:List Str)(cap:List Nat)(hN:X.N.Nodup)(W:X.N[i]?=some x)(hl:Loc X.env.scope x)(hc:X.calm=true)(hi:VIc X md P tg iter mi)
  (hg:∀C s H ex P,VG (cF X scope C (bM l own cap) s H ex) (cMd own.length cap md) P tg g) (Y:∀C s H ex P,VIf (cF X scope C (bM l own cap) s H ex) (cMd own.length cap md) P ifs t)
  (he:∀C s H ex P,VE (cF X scope C (bM l own cap) s H ex) (cMd own.length cap md) P elt e)
  (hm:md[i]?=some .v:=by rfl) (n:∀j∈cap,j<md.length:=by decide) (G:swapsWith (.ListComp elt [⟨tg,iter,ifs,0⟩] scope pos) (some (.Name x pos')) c.line X.env=pure true:=by rfl)
  (hf:X.fn x=true\/X.env.scope.names.lookup x=some .local:=by first | exact .inl rfl | exact .inr rfl | assumption)
  (I:X.env.scope=f:=by rfl) (J:X.N=l:=by rfl) (ok:mK f l scope own cap=true:=by decide +kernel) (Z:∀x,foldedSetIterable iter X.env x=pure x:=by intro _;rfl):
  VS X md P R (.Assign [.Name x pos'] (.ListComp elt [⟨tg,iter,ifs,0⟩] scope pos) c) (aH i (dJ mi own.length cap g t e)):=
 (RG (i:=i) f l own cap hN W hl hc hi (λC s H ex=>xmg (hg C s H ex)) (λC s H ex=>xmt (Y C s H ex)) (λC s H ex=>xm (he C s H ex)) G hf I J ok Z).imp λD σ H q =>
  Fd hm (λσ H Q z=>Fg n (by
   obtain⟨ρ,O,F,as,d,O',r,s,e,k⟩:=z;refine⟨ρ,_,F,as,_,_,r,s,e,λv U y m g T B=>?_⟩
   rcases B with⟨_,B⟩ | ⟨a,L,ds,rfl,rfl,e3,E,e5,e6,e7⟩
   ·exact k v U y m g T B
   ·have ff:Same y (upd y a (.lst L)):=λb u q=>by rw[aL (cz q E)];exact q
    exact k _ U (upd y a (.lst L)) m (g.frz e6 E) (T.frz e3 E e5 rfl) (Rp.mkL (.inl (.inl bI)) (Rps.mono ff (λ_ _ z=>z) _ e7)))) q
end
def vSp(K:Frag)(mg:Str->Option Value)(pm:List Md)(R:RR)(c:List D->aq->Res D):Sp:=λvs H Q _ =>
 ∃m O F j d n,RlO K mg O H F j/\cN K H F j pm vs m/\c m O=.ok d n/\∀v g l f,Gr H F j g l f->RlO K mg n g l f->R (λa=>H a=none) g l f v d->Q v g
def bV(n:Nat)(b:MS):List D->aq->Res D:=λa O=>match b (a.map some++List.replicate (n - a.length) none) O with
 | .rt d O'=>.ok d O'
 | .nx _ O'=>.ok .non O'
 | .ex x O'=>.ex x O'
 | _=>.no
theorem cN.len{K:Frag}{H F:Hp}{a:List Addr}:∀{ms:List Md}{vs:List V}{ds:List D},cN K H F a ms vs ds->vs.length=ms.length/\ds.length=ms.length
 | [],[],[],_=>⟨rfl,rfl⟩
 |m::ms,v::vs,d::ds,h=>by
  have:=cN.len h.2
  simp[this.1,this.2]
 | [],[],_::_,h=>h.elim
 | [],_::_,[],h=>h.elim
 | [],_::_,_::_,h=>h.elim
 | _::_,[],[],h=>h.elim
 | _::_,[],_::_,h=>h.elim
 | _::_,_::_,[],h=>h.elim
theorem cN.get{K:Frag}{H F:Hp}{a:List Addr}:∀{ms:List Md}{vs:List V}{ds:List D}{i:Nat}{m:Md}{d:D},cN K H F a ms vs ds->ms[i]?=some m->ds[i]?=some d->∃v,vs[i]?=some v/\rA K m (λ_=>True) H F a v d
 |m::ms,v::vs,d::ds,0,m',d',h,e1,e2=>by
  simp at e1 e2
  subst e1 e2;exact⟨v,rfl,h.1⟩
 |m::ms,v::vs,d::ds,i+1,m',d',h,e1,e2=>by
  obtain⟨c,h1,h2⟩:=cN.get (i:=i) (m:=m') (d:=d') h.2 (by simpa using e1) (by simpa using e2);exact⟨c,by simpa using h1,h2⟩
 | [],[],[],_,_,_,_,e1,_=>by simp at e1
 | [],[],_::_,_,_,_,h,_,_=>h.elim
 | [],_::_,[],_,_,_,h,_,_=>h.elim
 | [],_::_,_::_,_,_,_,h,_,_=>h.elim
 | _::_,[],[],_,_,_,h,_,_=>h.elim
 | _::_,[],_::_,_,_,_,h,_,_=>h.elim
 | _::_,_::_,[],_,_,_,h,_,_=>h.elim
theorem Fj{K:Frag}{H F:Hp}{x:List Addr}{N:List Str}{pm n:List Md}{vs:List V}{ds:List D}(h:cN K H F x pm vs ds)(I:(pm++n).length=N.length)(r:∀m∈pm,m≠.o):
  SlO K (pm++n) (Pt.all H) (ds.map some++List.replicate (N.length - ds.length) none) (start N vs) H F x:=by
 obtain⟨h1,h2⟩:=h.len;rw[zn] at I
 have L:vs.length<=N.length:=by omega
 have no:∀i a,(ds.map some++List.replicate (N.length - ds.length) none)[i]?=some (some a)->i<ds.length:=λi a e=>by
  by_cases g:i<ds.length
  ·exact g
  ·rw[zH (by simpa using g),List.getElem?_replicate] at e
   split at e<;>cases e
 refine⟨by unfold start;simp;omega,by simp;omega,λa z=>z,λi m d f c=>?_,λi j a u fs f c J=>?_,λ_ z=>nomatch z⟩
 ·have g:=no i d c;rw[zB (by simpa using g),zD] at c;rw[zB (by omega)] at f
  cases q:ds[i]? with
  |none=>rw[q] at c;cases c
  |some d' =>
   rw[q] at c;cases c;obtain⟨v,h3,h4⟩:=h.get f q;refine⟨v,?_,?_⟩
   ·unfold start;rw[zB (by simp;omega),zD,h3];rfl
   ·cases m with
    |v=>exact h4
    |s =>
     rcases h4 with h4 | ⟨a,G,u,E,C,l,B,y⟩
     ·exact .inl h4
     ·exact .inr ⟨a,G,u,E,C,l,B,(show H a≠none by rw[l];exact λz=>nomatch z),y⟩
    |o=>exact absurd rfl (r .o (zJ f))
 ·have g:=no i _ J;rw[zB (by omega)] at f;exact absurd rfl (r .o (zJ f))
section
variable {Pr:Program}{w:World}{K:Frag}{mg:Str->Option Value}{base:Heap}
theorem cY{x:Str}{st:Stmt}{N ps:List Str}{k:Nat}(Df:Def K mg x st)(S:bQ N ps (aX st))
  (hb:∀(kV J pm:Value) (an:Option Addr) (j ct:Value) (us:List Value),us.length=ps.length->bindArgs (PySem.W.fnOf x x (fc st) (di st) (aX st) .none kV J pm an j ct) ⟨us,[]⟩=pure (ps.zip us))
  (pm L:List Md) {R:RR}{b:MS} (hR:fj R) (I:∀N H F n,R N H F n .non .non) (G:pm.length=ps.length:=by rfl) (Z:(pm++L).length=N.length:=by rfl) (Y:∀m∈pm,m≠.o:=by decide)
  (body:∀(f:Addr) (j:Value) (A:Around) (outer:List Env) (s:Shared) (H:Hp) (E:XK),bj k (A.deeper (envOfC x (aX st) s.heap.objs.size f j))->∀P,VSs ((f9 CX0 Pr w K mg base N x (aX st) f j A outer s H E).nox) (pm++L) P R (di st) b):
  Can Pr w K mg base x ps (k+1) (vSp K mg pm R (bV N.length b)):=by
 refine Df.can (k:=k) S hb (λT H Q E h=>?_) (λf j A outer s H T Q E X h=>?_)
 ·obtain⟨y,O,F,n,d,O',r,a,_⟩:=h;rw[a.len.1,G]
 ·obtain⟨y,O,F,n,d,O',r,a,e,q⟩:=h;refine⟨_,body f j A outer s H E X (Pt.all H),?_⟩;refine⟨_,O,F,n,r,Fj a Z Y,?_⟩;unfold bV at e
  cases eb:b (y.map some++List.replicate (N.length - y.length) none) O with
  |rt d' O2 =>
   rw[eb] at e;cases e
   exact λv B C l g u U=>q v B C l g.gr u (hR _ _ _ _ _ _ _ (λc hc=>Classical.not_not.mp hc) U)
  |nx ρ O2 =>
   rw[eb] at e;cases e
   exact λσ' B C l g u _=>q _ B C l g.gr u (I _ _ _ _)
  |bk _ _=>rw[eb] at e;cases e
  |ct _ _=>rw[eb] at e;cases e
  |ex _ _=>rw[eb] at e;cases e
  |no=>rw[eb] at e;cases e
end
section
variable {X:Cx}{md:List Md}{P:Pt}{R:RR}{k:Nat}{x:Str}{ps:List Str}{p pos:Pos}{e:Expr}{es:List Expr}{pm:List Md}{c:List D->aq->Res D}{ma:M (List D)}
def aG(c:List D->aq->Res D)(ma:M (List D)):M D:=λρ O=>(ma ρ O).bind λa d=>c a d
theorem Fo{K:Frag}{mg:Str->Option Value}(B:fj R){E:XK}{σ:St}{H:Hp}{Q:VK}(q:tM K mg md P R (aG c ma) σ H Q):oK (vSp K mg pm R c) [] E (tMA K mg md P pm ma) σ H Q:=by
 obtain⟨ρ,O,F,J,d,T,r,s,e,k⟩:=q;obtain⟨I,L,G,e⟩:=Res.bind_ok e;refine⟨ρ,_,F,J,_,_,r,s,G,λZ H1 W f j l u=>?_⟩;dsimp only;rw[zX];exact⟨I,L,W,f,d,T,l,u,e,λv U Y g C m n=>k v U Y g (j.trans C) m (B _ _ _ _ _ _ _ (λa y=>j.dm a y) n)⟩
theorem Fp(m:fj R)(C:Can X.prog X.w X.K X.mg X.base x ps k (vSp X.K X.mg pm R c))(f:bj k X.A)(l:AE X md P pm (e::es) ma)(g:Gl X x:=by rfl)(d:(x == ("__debug__":Str))=false:=by decide)
  (j:starEach (e::es) X.env=(false,eval e X.env)::starEach es X.env:=by exact dH rfl) (a:(backTo pos (starEach es X.env)).any (·.1)=false:=by exact eH rfl):PE X (.Call (.Name x p) (e::es) [] pos) (tM X.K X.mg md P R (aG c ma)):=
 (RJ C f l g d j a).imp λ_ _ _ q=>Fo m q
theorem S7(j:fj R)(C:Can X.prog X.w X.K X.mg X.base x ps k (vSp X.K X.mg [] R c))(f:bj k X.A)(g:Gl X x:=by rfl)(a:(x == ("__debug__":Str))=false:=by decide):PE X (.Call (.Name x p) [] [] pos) (tM X.K X.mg md P R (aG c au)):=
 (RK C f g a).imp λσ H Q q=>by
  have:=Fo (pm:=[]) (E:=E0) j q
  obtain⟨ρ,O,F,m,d,n,r,s,l,k⟩:=this;cases l;exact k [] H F m Gr.refl r trivial
end
section
variable {K:Frag}{mg:Str->Option Value}{H F:Hp}{as:List Addr}{O:aq}{Q:VK}{d:D}{p:Addr}{xs:List V}{ds:List D}
theorem cQ{v:V}(r:RlO K mg O H F as)(k:∀g c f,Gr H F as c f as->RlO K mg O c f as->Ow K (λa=>H a=none) c f as g d->Q g c)(j:iB d=true)(hv:Rp K F as v d):Q v H:=k v H F Gr.refl r (.inl ⟨j,hv⟩)
theorem RlO.frF(r:RlO K mg O H F as)(a:H p=none):F p=none:=by
 cases q:F p with
 |none=>rfl
 |some o=>rw[r.fh p o q] at a;cases a
theorem mR(r:RlO K mg O H F as)(k:∀j f g,Gr H F as f g as->RlO K mg O f g as->Ow K (λa=>H a=none) f g as j (.lst ds)->Q j f)(c:H p=none)(hs:Rps K F as xs ds):Q (.ref p) (upd H p (.lst xs)):=
 k _ _ F (Gr.lay c) (r.lay c) (.inr ⟨p,xs,ds,rfl,rfl,bI,r.frF c,λz=>r.all z c,c,hs⟩)
theorem Fq(r:RlO K mg O H F as)(k:∀l f j,Gr H F as f j as->RlO K mg O f j as->Ow K (λa=>H a=none) f j as l (.tup ds)->Q l f)(c:H p=none)(hs:Rps K F as xs ds):Q (.ref p) (upd H p (.tup xs)):=by
 have g:=r.frF c
 have ff:Same F (upd F p (.tup xs)):=λb u q=>by rw[aL (cz q g)];exact q
 exact k _ _ (upd F p (.tup xs)) ((Gr.lay c).frz c g) ((r.lay c).frz bI g (λz=>r.all z c) rfl) (.inl ⟨rfl,Rp.mkT (.inl bI) (Rps.mono ff (λ_ _ z=>z) _ hs)⟩)
end
section
variable {X:Cx}
def S8(K:Frag):R2:=λx y H Q=>∃l b c a,x=.ref l/\y=.ref b/\RdK K H l c/\RdK K H b a/\c.length+a.length<=sizeLine/\∀p,H p=none->Q (.ref p) (upd H p (.lst (c++a)))
theorem S9:OpR X (binaryOp .Add) (S8 X.K):=by
 intro pins s σ H x y v u Q I g f h;obtain⟨l,b,J,F,rfl,rfl,j,m,O,q⟩:=h;cases g;cases f;obtain⟨z,c,n,r,e⟩:=j.ok I;obtain⟨G,a,L,d,C⟩:=m.ok I;have R:=r.length;have E:=d.length;refine PySem.P.add_list e C ?_ (by rw[zA,zA];omega)
 have B:c.toArray++a.toArray=(c++a).toArray:=by simp
 rw[B];exact⟨.ref _,_,I.lnew (t':=s.toks) (r.append d) (by rw[zn];omega),rfl,q _ I.fresh⟩
def Tc(K:Frag):R2:=λx y H Q=>∃l k a,x=.ref l/\y=.int k/\RdK K H l a/\-(2 ^ 63)<=k/\k<2 ^ 63/\a.length * k.toNat<=sizeLine /\
 ∀p,H p=none->Q (.ref p) (upd H p (.lst (List.replicate k.toNat a).flatten))
theorem Td:OpR X (binaryOp .Mult) (Tc X.K):=by
 intro pins s σ H x y v u Q I L J h;obtain⟨l,k,R,rfl,rfl,P,h1,h2,E,q⟩:=h;cases L;obtain⟨t,rfl⟩:=J;obtain⟨z,c,n,r,e⟩:=P.ok I;have O:=r.length
 have hlen:c.toArray.size * k.toNat<=sizeLine:=by rw[zA,<-O];exact E
 have j:¬c.toArray.size * k.toNat>(2 ^ 63 - 1) / 8:=by
  have:(sizeLine:Nat)<=(2 ^ 63 - 1) / 8:=by decide
  omega
 have g:¬(!Builtin.List.listFitsIndex k)=true:=by
  rw[fitsIndex_both h1 h2];exact zh
 have d:¬Builtin.List.listTooLong (c.toArray.size * k.toNat)=true:=by
  rw[vD hlen];exact zh
 have f:List.foldl (λC B=>C++B) #[] (List.replicate (if c.toArray.isEmpty=true then 0 else k.toNat) c.toArray)=(List.replicate k.toNat c).flatten.toArray:=by
  have f0:∀m:Nat,List.foldl (λC B=>C++B) #[] (List.replicate m c.toArray)=(List.replicate m c).flatten.toArray:=λm=>by
   have:=foldl_rep c m []
   rw[zK] at this;exact this
  rw[f0]
  cases c with
  |nil=>simp
  |cons a W=>rw[if_neg (by simp)]
 refine wpAny_binaryOp_repeat_ref (T:="list") (U:="int") (by decide) ⟨_,e,rfl⟩ (λG=>typeIs_int G k t) noFill_list_mul F.fills_int_mul F.slot_int_rmul repeat_list F.slot_int_index.lookup
  (call_meets F.slot_int_rmul (typeIs_int s k t) F.entry_int_rmul (F.args_int_rmul_2 _ _) (int___rmul___int_list k t l c.toArray n)
   ⟨e,rfl,⟨_,e,rfl⟩,call_meets F.slot_list_mul ⟨_,e,rfl⟩ F.entry_list_mul (F.args_list_mul_2 _ _) (AutoListH.list___mul___list_int_3 l c.toArray n k t g j d) ⟨e,?_⟩⟩)
 rw[f];exact⟨.ref _,_,I.lnew (t':=s.toks) (r.rep k.toNat) (by rw[len_rep,Nat.mul_comm];exact E),rfl,q _ I.fresh⟩
def aD:D->D->Option D
 | .int i,.int j=>some (.int (i+j))
 | .int i,.bl k=>some (.int (i+b2i k))
 | .str a,.str b=>if a.length+b.length<=1000000 then some (.str (a++b)) else none
 | .lst a,.lst b=>if a.length+b.length<=1000000 then some (.lst (a++b)) else none
 | .tup a,.tup b=>if a.length+b.length<=1000000/\a≠[] then some (.tup (a++b)) else none
 | _,_=>none
instance (a:List D):Decidable (a≠[]):=match a with
 | []=>isFalse λh=>h rfl
 | _::_=>isTrue λh=>nomatch h
theorem bJ:OpD X (binaryOp .Add) aD:=by
 intro pins s σ H x y v u Q I g f h;obtain⟨O,F,R,P,B,d,r,m,l,e,k⟩:=h
 cases P with
 |int i =>
  cases(m.rp rfl).unI
  cases B with
  |int j =>
   cases(l.rp rfl).unI;cases e;exact OJ pins s σ H _ _ v u Q I g f ⟨i,j,rfl,rfl,cQ r k rfl Rp.int⟩
  |bl j =>
   cases(l.rp rfl).unB;cases e;exact Pj pins s σ H _ _ v u Q I g f ⟨i,j,rfl,rfl,cQ r k rfl Rp.int⟩
  | _=>cases e
 |str a =>
  cases(m.rp rfl).unS
  cases B with
  |str b =>
   cases(l.rp rfl).unS;simp only[aD] at e;split at e
   ·rename_i c;cases e;refine PJ pins s σ H _ _ v u Q I g f ⟨S a,S b,rfl,rfl,by rw[eG,eG];exact gG c,?_⟩;rw[RP];exact cQ r k rfl Rp.str
   ·cases e
  | _=>cases e
 |lst a =>
  obtain⟨p,n,rfl,h1,h2⟩:=m.list r.fh
  cases B with
  |lst b =>
   obtain⟨E,C,rfl,h3,h4⟩:=l.list r.fh;simp only[aD] at e;split at e
   ·rename_i c;cases e;exact S9 pins s σ H _ _ v u Q I g f ⟨p,E,n,C,rfl,rfl,h1,h3,by rw[h2.length,h4.length];exact gG c,λq G=>mR r k G (Rps.append h4 h2)⟩
   ·cases e
  | _=>cases e
 |tup a =>
  obtain⟨p,n,rfl,h1,h2⟩:=(m.rp rfl).unT
  cases B with
  |tup b =>
   obtain⟨E,C,rfl,h3,h4⟩:=(l.rp rfl).unT;simp only[aD] at e;split at e
   ·rename_i c;cases e
    have J:n≠[]:=λz=>c.2 (List.eq_nil_of_length_eq_zero (by rw[<-h2.length,z];rfl))
    refine QL pins s σ H _ _ v u Q I g f ⟨p,E,n,C,rfl,rfl,Same.seqT r.fh h1,Same.seqT r.fh h3,J,by rw[h2.length,h4.length];exact gG c.1,λz=>?_,λ_ q G=>Fq r k G (Rps.append h4 h2)⟩;have L:b=[]:=List.eq_nil_of_length_eq_zero (by rw[<-h4.length,z];rfl);subst L;rw[zX] at k;exact cQ r k rfl (m.rp rfl)
   ·cases e
  | _=>cases e
 | _=>cases e
def gI(C:Int->Int->Bool)(f:Int->Int->Int):D->D->Option D
 | .int i,.int j=>if C i j=true then some (.int (f i j)) else none
 | _,_=>none
theorem vX{f:Value->Value->Sem Value}{a:Int->Int->Prop}{g:Int->Int->Int}{C:Int->Int->Bool}(h:OpR X f (rI a λi j=>.int (g i j)))(q:∀i j,C i j=true->a i j):OpD X f (gI C g):=by
 intro pins s σ H x y v u Q I l c E;obtain⟨O,F,L,J,G,d,r,n,m,e,k⟩:=E
 cases J with
 |int i =>
  cases(n.rp rfl).unI
  cases G with
  |int j =>
   cases(m.rp rfl).unI;simp only[gI] at e;split at e
   ·rename_i B;cases e;exact h pins s σ H _ _ v u Q I l c ⟨i,j,rfl,rfl,q i j B,cQ r k rfl Rp.int⟩
   ·cases e
  | _=>cases e
 | _=>cases e
def oY:D->D->Option D:=gI (λ_ _=>true) λi j=>i - j
theorem Te:OpD X (binaryOp .Sub) oY:=by
 intro pins s σ H x y v u Q I c a l;obtain⟨O,F,q,n,m,d,r,g,f,e,k⟩:=l
 cases n with
 |int i =>
  cases(g.rp rfl).unI
  cases m with
  |int j =>
   cases(f.rp rfl).unI;cases e;exact O7 pins s σ H _ _ v u Q I c a ⟨i,j,rfl,rfl,cQ r k rfl Rp.int⟩
  | _=>cases e
 | _=>cases e
def mU(i:Int):Bool:=decide (-(2 ^ 64)<i)&&decide (i<2 ^ 64)
theorem vY{i:Int}(h:mU i=true):-(2 ^ 64)<i/\i<2 ^ 64:=by
 unfold mU at h;rw[zm,decide_eq_true_eq,decide_eq_true_eq] at h;exact h
def d7:D->D->Option D
 | .int i,.int j=>if(mU i || mU j)=true then some (.int (i * j)) else none
 | .str l,.int n=>if -1000000<n/\n<1000000/\l.length * n.toNat<=16777216 then some (.str (List.replicate n.toNat l).flatten) else none
 | .lst l,.int n=>if -1000000<n/\n<1000000/\l.length * n.toNat<=1000000 then some (.lst (List.replicate n.toNat l).flatten) else none
 | _,_=>none
theorem rE:OpD X (binaryOp .Mult) d7:=by
 intro pins s σ H x y v u Q I f c h;obtain⟨O,F,J,G,B,d,r,m,g,e,k⟩:=h
 cases G with
 |int i =>
  cases(m.rp rfl).unI
  cases B with
  |int j =>
   cases(g.rp rfl).unI;simp only[d7] at e;split at e
   ·rename_i a;cases e;refine O8 pins s σ H _ _ v u Q I f c ⟨i,j,rfl,rfl,?_,cQ r k rfl Rp.int⟩;rw[Bool.or_eq_true] at a
    rcases a with z | z
    ·exact .inl (vY z)
    ·exact .inr (vY z)
   ·cases e
  | _=>cases e
 |str l =>
  cases(m.rp rfl).unS
  cases B with
  |int n =>
   cases(g.rp rfl).unI;simp only[d7] at e;split at e
   ·rename_i a;cases e;exact R8 pins s σ H _ _ v u Q I f c ⟨l,n,rfl,rfl,a.1,a.2.1,a.2.2,cQ r k rfl Rp.str⟩
   ·cases e
  | _=>cases e
 |lst l =>
  obtain⟨p,C,rfl,h1,h2⟩:=m.list r.fh
  cases B with
  |int n =>
   cases(g.rp rfl).unI;simp only[d7] at e;split at e
   ·rename_i a;cases e;exact Td pins s σ H _ _ v u Q I f c ⟨p,n,C,rfl,rfl,h1,by omega,by omega,by rw[h2.length];exact gG a.2.2,λq E=>mR r k E (h2.rep _)⟩
   ·cases e
  | _=>cases e
 | _=>cases e
def bw:D->D->Option D:=gI (λ_ j=>decide (0<j)) λi j=>i % j
theorem c7:OpD X (binaryOp .Mod) bw:=vX Pb λ_ _ h=>zU h
def fD:D->D->Option D:=gI (λ_ j=>decide (0<j)&&decide (j<1073741824)) λi j=>i / j
theorem oZ:OpD X (binaryOp .FloorDiv) fD:=vX Pa λi j h=>by
 rw[zm,decide_eq_true_eq,decide_eq_true_eq] at h;exact h
def iG:D->D->Option D:=gI (λi j=>decide (0<=j)&&(decide (j<=1000000)&&mU i)) λi j=>i ^ j.toNat
theorem vZ:OpD X (binaryOp .Pow) iG:=vX Pg λi j h=>by
 rw[zm,zm,decide_eq_true_eq,decide_eq_true_eq] at h
 have:=vY h.2.2
 exact⟨h.1,h.2.1,by omega⟩
def mUn(g:D->Option D)(m:M D):M D:=λρ O=>(m ρ O).bind λd a=>match g (bG a d) with
 |some y=>.ok y a
 |none=>.no
def jz:D->Option D
 | .int i=>some (.int (-i))
 | _=>none
theorem rF{md:List Md}{P:Pt}{a:Expr}{c:Pos}{m:M D}(h:SE X md P a m):OE X md P (.UnaryOp .USub a c) (mUn jz m):=(Ox Ph h).imp λσ H Q q=>by
 obtain⟨ρ,O,F,u,d,E,r,s,e,k⟩:=q;obtain⟨x,y,n,e⟩:=Res.bind_ok e;refine⟨ρ,_,F,u,_,_,r,s,n,λv B C f l g j=>?_⟩
 cases ed:bG y x with
 |int i =>
  rw[ed] at e;cases e
  have:=Sv.lk j g
  rw[ed] at this;exact⟨i,(this.rp rfl).unI,k _ B C f l g (.inl ⟨rfl,Rp.int⟩)⟩
 | _=>rw[ed] at e;cases e
def gCI(f:Int->Int->Bool):D->D->Option D
 | .int i,.int j=>some (.bl (f i j))
 | _,_=>none
theorem Ft{f:Value->Value->Sem Value}{g:Int->Int->Bool}(h:OpR X f (rI0 λi j=>.bl (g i j))):OpD X f (gCI g):=by
 intro pins s σ H x y v u Q I c a n;obtain⟨O,F,C,B,q,d,r,m,l,e,k⟩:=n
 cases B with
 |int i =>
  cases(m.rp rfl).unI
  cases q with
  |int j =>
   cases(l.rp rfl).unI;cases e;exact h pins s σ H _ _ v u Q I c a ⟨i,j,rfl,rfl,cQ r k rfl Rp.bl⟩
  | _=>cases e
 | _=>cases e
def gLt:D->D->Option D:=gCI λi j=>decide (i<j)
def gGt:D->D->Option D:=gCI λi j=>decide (j<i)
def gGe:D->D->Option D:=gCI λi j=>decide (j<=i)
def gLe:D->D->Option D
 | .int i,.int j=>some (.bl (decide (i<=j)))
 | .str a,.str b=>some (.bl (!decide (b<a)))
 | _,_=>none
theorem iH:OpD X (compareOp .Lt) gLt:=Ft Pk
theorem o8:OpD X (compareOp .Gt) gGt:=Ft Pn
mutual
def toP:D->PyData
 | .non=>.none
 | .bl b=>.bool b
 | .int i=>.int i
 | .str l=>.str (S l)
 | .lst ds=>.list (jX ds)
 | .tup ds=>.tuple (jX ds)
 | .dic _ _=>.none
 | .ob _=>.none
def jX:List D->List PyData
 | []=>[]
 |d::ds=>toP d::jX ds
end
mutual
def fO:D->Bool
 | .lst ds=>lE ds
 | .tup ds=>lE ds
 | .dic _ _=>false
 | .ob _=>false
 | _=>true
def lE:List D->Bool
 | []=>true
 |d::ds=>fO d&&lE ds
end
section
variable {K:Frag}{F:Hp}{as:List Addr}
mutual
theorem Rp.rep:∀(d:D) {v:V},fO d=true->Rp K F as v d->Rep K F v (toP d)
 | .non,v,_,h=>by rw[toP,Rep];exact h.unN
 | .bl b,v,_,h=>by rw[toP,Rep];exact h.unB
 | .int i,v,_,h=>by rw[toP,Rep];exact h.unI
 | .str x,v,_,h=>by rw[toP,Rep];exact h.unS
 | .lst ds,v,hp,h=>by
  obtain⟨a,c,h1,h2,h3⟩:=h.unL;rw[toP,Rep];rw[fO] at hp;exact⟨a,c,h1,h2.sq,Rps.rep' ds hp h3⟩
 | .tup ds,v,hp,h=>by
  obtain⟨a,c,h1,h2,h3⟩:=h.unT;rw[toP,Rep];rw[fO] at hp;exact⟨a,c,h1,h2,Rps.rep' ds hp h3⟩
 | .dic _ _,v,hp,h=>by rw[fO] at hp;cases hp
 | .ob _,v,hp,h=>by rw[fO] at hp;cases hp
theorem Rps.rep':∀(ds:List D) {xs:List V},lE ds=true->Rps K F as xs ds->aU K F xs (jX ds)
 | [],xs,_,h=>by rw[h.un0,jX];exact aU.nil
 |d::ds,xs,hp,h=>by
  obtain⟨x,r,rfl,h2,h3⟩:=h.un;rw[lE,zm] at hp;rw[jX];exact aU.cons (Rp.rep d hp.1 h2) (Rps.rep' ds hp.2 h3)
end
theorem Lk.rep{H:Hp}{d:D}{v:V}(h:Lk K H F as v d)(fh:Same F H)(c:fO d=true):Rep K H v (toP d):=by
 rcases h with h | ⟨a,f,g,rfl,rfl,h1,h2⟩
 ·exact Rep.mono fh _ (Rp.rep d c h)
 ·rw[fO] at c;rw[toP,Rep];exact⟨a,f,rfl,.inl (.inl h1),aU.mono fh _ (Rps.rep' g c h2)⟩
end
def okE(d:D):Bool:=fO d&&okD (toP d)
def lF(a b:D):Bool:=PyData.eqv (toP a) (toP b)
def gEq:D->D->Option D
 | .int i,.int j=>some (.bl (decide (i=j)))
 | .str a,.str b=>some (.bl (decide (a=b)))
 | .bl a,.bl b=>some (.bl (decide (a=b)))
 |a,b=>if(okE a&&okE b)=true then some (.bl (lF a b)) else none
def gNe:D->D->Option D
 | .int i,.int j=>some (.bl (!decide (i=j)))
 | .str a,.str b=>some (.bl (!decide (a=b)))
 | .bl a,.bl b=>some (.bl (!decide (a=b)))
 |a,b=>if(okE a&&okE b)=true then some (.bl (!lF a b)) else none
theorem Fv(a b:List Nat):decide (V.str (S a)=V.str (S b))=decide (a=b):=by
 by_cases h:a=b
 ·subst h;simp
 ·rw[ze h,ze];intro z;exact h (lA (V.str.inj z))
theorem Fw(a b:Int):decide (V.int a=V.int b)=decide (a=b):=by
 by_cases h:a=b
 ·subst h;simp
 ·rw[ze h,ze];intro z;exact h (V.int.inj z)
theorem Fx(a b:Bool):decide (V.bl a=V.bl b)=decide (a=b):=by
 cases a<;>cases b<;>rfl
theorem Tf{a b d:D}(h:gEq a b=some d):(∃i j,a=.int i/\b=.int j/\d=.bl (decide (i=j)))\/(∃i j,a=.str i/\b=.str j/\d=.bl (decide (i=j)))\/(∃i j,a=.bl i/\b=.bl j/\d=.bl (decide (i=j))) \/
  (okE a=true/\okE b=true/\d=.bl (lF a b)):=by
 unfold gEq at h;split at h
 ·cases h;exact .inl ⟨_,_,rfl,rfl,rfl⟩
 ·cases h;exact .inr (.inl ⟨_,_,rfl,rfl,rfl⟩)
 ·cases h;exact .inr (.inr (.inl ⟨_,_,rfl,rfl,rfl⟩))
 ·split at h
  ·rename_i c;rw[zm] at c;cases h;exact .inr (.inr (.inr ⟨c.1,c.2,rfl⟩))
  ·cases h
theorem Tg{a b d:D}(h:gNe a b=some d):(∃i j,a=.int i/\b=.int j/\d=.bl (!decide (i=j)))\/(∃i j,a=.str i/\b=.str j/\d=.bl (!decide (i=j)))\/(∃i j,a=.bl i/\b=.bl j/\d=.bl (!decide (i=j))) \/
  (okE a=true/\okE b=true/\d=.bl (!lF a b)):=by
 unfold gNe at h;split at h
 ·cases h;exact .inl ⟨_,_,rfl,rfl,rfl⟩
 ·cases h;exact .inr (.inl ⟨_,_,rfl,rfl,rfl⟩)
 ·cases h;exact .inr (.inr (.inl ⟨_,_,rfl,rfl,rfl⟩))
 ·split at h
  ·rename_i c;rw[zm] at c;cases h;exact .inr (.inr (.inr ⟨c.1,c.2,rfl⟩))
  ·cases h
theorem bT{k:Nat}(l:bj k X.A):OpD X (compareOp .Eq) gEq:=by
 intro pins s σ H x y v u Q I c a m;obtain⟨O,F,B,q,n,d,r,g,f,e,k⟩:=m
 rcases Tf e with⟨i,j,rfl,rfl,rfl⟩ | ⟨i,j,rfl,rfl,rfl⟩ | ⟨i,j,rfl,rfl,rfl⟩ | ⟨h1,h2,rfl⟩
 ·cases(g.rp rfl).unI;cases(f.rp rfl).unI;refine u9 pins s σ H _ _ v u Q I c a ⟨rfl,?_⟩;rw[Fw];exact cQ r k rfl Rp.bl
 ·cases(g.rp rfl).unS;cases(f.rp rfl).unS;refine u9 pins s σ H _ _ v u Q I c a ⟨rfl,?_⟩;rw[Fv];exact cQ r k rfl Rp.bl
 ·cases(g.rp rfl).unB;cases(f.rp rfl).unB;refine u9 pins s σ H _ _ v u Q I c a ⟨rfl,?_⟩;rw[Fx];exact cQ r k rfl Rp.bl
 ·unfold okE at h1 h2;rw[zm] at h1 h2;exact RL l pins s σ H _ _ v u Q I c a ⟨toP q,toP n,g.rep r.fh h1.1,f.rep r.fh h2.1,h1.2,h2.2,cQ r k rfl Rp.bl⟩
theorem mV{k:Nat}(l:bj k X.A):OpD X (compareOp .NotEq) gNe:=by
 intro pins s σ H x y v u Q I c a m;obtain⟨O,F,B,q,n,d,r,g,f,e,k⟩:=m
 rcases Tg e with⟨i,j,rfl,rfl,rfl⟩ | ⟨i,j,rfl,rfl,rfl⟩ | ⟨i,j,rfl,rfl,rfl⟩ | ⟨h1,h2,rfl⟩
 ·cases(g.rp rfl).unI;cases(f.rp rfl).unI;refine vd pins s σ H _ _ v u Q I c a ⟨rfl,?_⟩;rw[Fw];exact cQ r k rfl Rp.bl
 ·cases(g.rp rfl).unS;cases(f.rp rfl).unS;refine vd pins s σ H _ _ v u Q I c a ⟨rfl,?_⟩;rw[Fv];exact cQ r k rfl Rp.bl
 ·cases(g.rp rfl).unB;cases(f.rp rfl).unB;refine vd pins s σ H _ _ v u Q I c a ⟨rfl,?_⟩;rw[Fx];exact cQ r k rfl Rp.bl
 ·unfold okE at h1 h2;rw[zm] at h1 h2;exact RM l pins s σ H _ _ v u Q I c a ⟨toP q,toP n,g.rep r.fh h1.1,f.rep r.fh h2.1,h1.2,h2.2,cQ r k rfl Rp.bl⟩
def toV:D->V
 | .bl b=>.bl b
 | .int i=>.int i
 | .str l=>.str (S l)
 | _=>.non
def gO:D->Bool
 | .non=>true
 | .bl _=>true
 | .int _=>true
 | .str _=>true
 | _=>false
def eqF(x y:D):Bool:=eqV (toV x) (toV y)
theorem Rp.flat{K:Frag}{F:Hp}{c:List Addr}{v:V}{d:D}(h:Rp K F c v d)(a:gO d=true):v=toV d/\iy v=true:=by
 cases d with
 |non=>rw[h.unN];exact⟨rfl,rfl⟩
 |bl b=>rw[h.unB];exact⟨rfl,rfl⟩
 |int b=>rw[h.unI];exact⟨rfl,rfl⟩
 |str b=>rw[h.unS];exact⟨rfl,rfl⟩
 | _=>cases a
theorem Rps.flat{K:Frag}{F:Hp}{j:List Addr}:∀{ds:List D}{xs:List V},Rps K F j xs ds->ds.all gO=true->xs=ds.map toV/\xs.all iy=true
 | [],xs,h,_=>by rw[h.un0];exact⟨rfl,rfl⟩
 |d::ds,xs,h,hf=>by
  obtain⟨x,r,rfl,h2,h3⟩:=h.un;rw[List.all_cons,zm] at hf;obtain⟨g,f⟩:=h2.flat hf.1;obtain⟨c,a⟩:=Rps.flat h3 hf.2;exact⟨by rw[zd,<-g,<-c],by rw[List.all_cons,f,a];rfl⟩
def gIn(a:Bool):D->D->Option D
 | .str [c],.str l=>some (.bl (a ^^ decide (c∈l)))
 |x,.lst ds=>if(gO x&&ds.all gO)=true then some (.bl (a ^^ ds.any λy=>eqF y x)) else none
 |x,.tup ds=>if(gO x&&ds.all gO)=true then some (.bl (a ^^ ds.any λy=>eqF y x)) else none
 | _,_=>none
theorem Th{g:Bool}{a b d:D}(h:gIn g a b=some d):(∃c l,a=.str [c]/\b=.str l/\d=.bl (g ^^ decide (c∈l)))\/(∃ds,(b=.lst ds\/b=.tup ds)/\gO a=true/\ds.all gO=true/\d=.bl (g ^^ ds.any λy=>eqF y a)):=by
 unfold gIn at h;split at h
 ·cases h;exact .inl ⟨_,_,rfl,rfl,rfl⟩
 ·split at h
  ·rename_i f;rw[zm] at f;cases h;exact .inr ⟨_,.inl rfl,f.1,f.2,rfl⟩
  ·cases h
 ·split at h
  ·rename_i f;rw[zm] at f;cases h;exact .inr ⟨_,.inr rfl,f.1,f.2,rfl⟩
  ·cases h
 ·cases h
theorem Ti{x:D}{ds:List D}:inV (toV x) (ds.map toV)=ds.any λy=>eqF y x:=by
 unfold inV;rw[List.any_map];rfl
theorem Tj{K:Frag}{mg:Str->Option Value}{H F:Hp}{a:List Addr}{O:aq}{v:V}{b:D}{ds:List D}(r:RlO K mg O H F a)(c:Lk K H F a v b)(d:b=.lst ds\/b=.tup ds):∃p xs,v=.ref p/\(SqL K H p xs\/SqT K H p xs)/\Rps K F a xs ds:=by
 rcases d with rfl | rfl
 ·obtain⟨p,xs,e,h1,h2⟩:=c.list r.fh;exact⟨p,xs,e,.inl h1.sq,h2⟩
 ·obtain⟨p,xs,e,h1,h2⟩:=(c.rp rfl).unT;exact⟨p,xs,e,.inr (Same.seqT r.fh h1),h2⟩
theorem Tn{d:D}(h:gO d=true):iB d=true:=by cases d<;>first | rfl | cases h
theorem Fy:OpD X (compareOp .In) (gIn false):=by
 intro pins s σ H x y v u Q I f a q;obtain⟨O,F,R,L,J,d,r,j,g,e,k⟩:=q
 rcases Th e with⟨c,l,rfl,rfl,rfl⟩ | ⟨P,n,h1,h2,rfl⟩
 ·cases(j.rp rfl).unS;cases(g.rp rfl).unS;refine RQ pins s σ H _ _ v u Q I f a ⟨c,l,rfl,rfl,?_⟩;rw[Bool.false_xor] at k;exact cQ r k rfl Rp.bl
 ·obtain⟨p,m,rfl,h3,h4⟩:=Tj r g n;obtain⟨G,E⟩:=(j.rp (Tn h1)).flat h1;obtain⟨C,B⟩:=h4.flat h2;refine Q4 pins s σ H _ _ v u Q I f a ⟨p,m,rfl,h3,E,B,?_⟩;rw[if_neg zh,G,C,Ti];rw[Bool.false_xor] at k;exact cQ r k rfl Rp.bl
def gIx:D->D->Option D
 | .lst ds,.int i=>atI ds i
 | .tup ds,.int i=>atI ds i
 | .str l,.int i=>if l.length<=1000000 then(atI l i).map λc=>.str [c] else none
 | _,_=>none
theorem Rps.atI{K:Frag}{F:Hp}{a:List Addr}{xs:List V}{ds:List D}{i:Int}{d:D}(h:Rps K F a xs ds)(e:atI ds i=some d):∃v,L2.atI xs i=some v/\Rp K F a v d:=by
 unfold L2.atI at e ⊢;rw[h.length]
 cases q:ixN ds.length i with
 |none=>rw[q] at e;cases e
 |some j =>
  rw[q] at e;exact h.get' e
def rDv(K:Frag)(mg:Str->Option Value)(g:D->D->Option D):R2:=λx y H Q=>∃O F a j f d,RlO K mg O H F a/\Lk K H F a x j/\Lk K H F a y f/\g j f=some d/\∀c,Rp K F a c d->Q c H
theorem Tp:IxR X (rDv X.K X.mg gIx):=by
 intro value slice pins s σ H x y v u Q I j g J a;obtain⟨O,F,P,L,E,d,r,n,m,e,k⟩:=J
 cases L with
 |lst ds =>
  obtain⟨p,f,rfl,h1,h2⟩:=n.list r.fh
  cases E with
  |int i =>
   cases(m.rp rfl).unI;obtain⟨z,C,B⟩:=h2.atI e;exact QV value slice pins s σ H _ _ v u Q I j g ⟨p,f,i,z,rfl,rfl,h1.sq,C,k z B⟩ a
  | _=>cases e
 |tup ds =>
  obtain⟨p,f,rfl,h1,h2⟩:=(n.rp rfl).unT
  cases E with
  |int i =>
   cases(m.rp rfl).unI;obtain⟨z,C,B⟩:=h2.atI e;exact QW value slice pins s σ H _ _ v u Q I j g ⟨p,f,i,z,rfl,rfl,Same.seqT r.fh h1,C,k z B⟩ a
  | _=>cases e
 |str l =>
  cases(n.rp rfl).unS
  cases E with
  |int i =>
   cases(m.rp rfl).unI;simp only[gIx] at e;split at e
   ·rename_i G
    cases q:L2.atI l i with
    |none=>rw[q] at e;cases e
    |some c =>
     rw[q] at e;cases e;exact kZ value slice pins s σ H _ _ v u Q I j g ⟨S l,i,c,rfl,rfl,by rw[eG];exact gG G,by rw[lz];exact q,k _ Rp.str⟩ a
   ·cases e
  | _=>cases e
 | _=>cases e
theorem bC{md:List Md}{P:Pt}{a b:Expr}{g:Pos}{l mb:M D}(R:SE X md P a l)(L:SE X md P b mb)(hs:vq b:=by intro _ _;rfl):VE X md P (.Subscript a b g) (aj gIx l mb):=(QQ Tp R L hs).imp λσ H Q h=>by
 obtain⟨ρ,O,F,W,d,O',r,sl,e,k⟩:=h;obtain⟨x,O1,U,e⟩:=Res.bind_ok e;obtain⟨y,O2,T,e⟩:=Res.bind_ok e;split at e
 ·rename_i d' J;cases e;refine⟨ρ,_,F,W,_,_,r,sl,U,λv H1 Z j n C G=>?_⟩;refine⟨ρ,_,Z,j,_,_,C,sl.step n,T,λu Y q c m f I=>?_⟩;exact⟨_,q,c,_,_,_,f,Sv.lk (Sv.gr G m) f,Sv.lk I f,J,λB E=>k B Y q c (n.trans m) f E⟩
 ·cases e
def tMO(K:Frag)(mg:Str->Option Value)(md:List Md)(P:Pt)(m:M (Option Int)):TO:=λσ H Q =>
 ∃ρ O F c b f,RlO K mg O H F c/\SlO K md P ρ σ H F c/\m ρ O=.ok b f/\∀d g a,Gr H F c d g a->RlO K mg f d g a->Q b d
def VO(X:Cx)(md:List Md)(P:Pt)(e:Option Expr)(m:M (Option Int)):Prop:=PO X e (tMO X.K X.mg md P m)
theorem PO.imp{e:Option Expr}{t t':TO}(h:PO X e t)(k:∀σ H Q,t' σ H Q->t σ H Q):PO X e t':=λpins s σ H Q I q=>h pins s σ H Q I (k σ H Q q)
def moN:M (Option Int):=λ_ O=>.ok none O
def moS(m:M D):M (Option Int):=λρ O=>(m ρ O).bind λd a=>match d with
 | .int i=>.ok (some i) a
 | _=>.no
theorem lG{md:List Md}{P:Pt}:VO X md P none moN:=QD.imp λσ H Q q=>by
 obtain⟨ρ,O,F,a,d,c,r,s,e,k⟩:=q;cases e;exact k H F a Gr.refl r
theorem dg{md:List Md}{P:Pt}{e:Expr}{m:M D}(h:VE X md P e m):VO X md P (some e) (moS m):=(QF h).imp λσ H Q q=>by
 obtain⟨ρ,O,F,l,d,B,r,s,e,k⟩:=q;obtain⟨x,y,j,e⟩:=Res.bind_ok e
 cases x with
 |int i =>
  cases e;exact⟨ρ,_,F,l,_,_,r,s,j,λv n u a g c f=>⟨i,Rp.unI f,k n u a g c⟩⟩
 | _=>cases e
def gSl(d:D)(lo a:Option Int):Option D:=match d with
 | .lst ds=>some (.lst (dj ds lo a))
 | .tup ds=>some (.tup (dj ds lo a))
 | .str l=>if l.length<=16777216 then some (.str (dj l lo a)) else none
 | _=>none
def Tq(K:Frag)(mg:Str->Option Value):V->Option Int->Option Int->Hp->VK->Prop:=λx lo m H Q=>∃O F c l d,RlO K mg O H F c/\Lk K H F c x l/\gSl l lo m=some d /\
 ∀j f g,Gr H F c f g c->RlO K mg O f g c->Ow K (λa=>H a=none) f g c j d->Q j f
theorem Rps.cut{K:Frag}{F:Hp}{c:List Addr}{xs:List V}{ds:List D}(h:Rps K F c xs ds)(lo a:Option Int):Rps K F c (iZ xs lo a) (dj ds lo a):=by
 unfold iZ dj;rw[h.length];exact(h.drop _).take _
theorem Tr:SlR X (Tq X.K X.mg):=by
 intro pins s σ H x v vl g lo a sl Q I j u n m h;obtain⟨O,F,E,C,d,r,c,e,k⟩:=h
 cases C with
 |lst ds =>
  obtain⟨p,f,rfl,h1,h2⟩:=c.list r.fh;cases e;exact Q0 pins s σ H _ v vl g lo a sl Q I j u n m ⟨p,f,rfl,h1.sq,λq y=>mR r k y (h2.cut lo a)⟩
 |tup ds =>
  obtain⟨p,f,rfl,h1,h2⟩:=(c.rp rfl).unT;cases e;refine R3 X.K rfl pins s σ H _ v vl g lo a sl Q I j u n m ⟨p,f,rfl,Same.seqT r.fh h1,λz=>?_,λ_ q y=>Fq r k y (h2.cut lo a)⟩
  have:dj ds lo a=ds:=by
   unfold dj;rw[<-h2.length,z.1,z.2,List.drop_zero,Nat.sub_zero,h2.length,List.take_length]
  rw[this] at k;exact cQ r k rfl (c.rp rfl)
 |str l =>
  cases(c.rp rfl).unS;simp only[gSl] at e;split at e
  ·rename_i B;cases e;exact R0 pins s σ H _ v vl g lo a sl Q I j u n m ⟨l,rfl,zG B (Nat.le_of_eq sizeLine_eq.symm),cQ r k rfl Rp.str⟩
  ·cases e
 | _=>cases e
def mSl(m:M D)(lo c:M (Option Int)):M D:=λρ O=>(m ρ O).bind λd g=>(lo ρ g).bind λl f=>(c ρ f).bind λh a=>match gSl (bG a d) l h with
 |some y=>.ok y a
 |none=>.no
end
section
variable {X:Cx}{md:List Md}{P:Pt}{R:RR}
theorem eO{e:Expr}{lo E:Option Expr}{Y j:Pos}{m:M D}{ml C:M (Option Int)}(he:SE X md P e m)(hl:VO X md P lo ml)(hh:VO X md P E C):OE X md P (.Subscript e (.Slice lo E none Y) j) (mSl m ml C):=(QG Tr he hl hh).imp λσ H Q q=>by
 obtain⟨ρ,O,F,as,d,O',r,s,e,k⟩:=q;obtain⟨x,O1,e1,e⟩:=Res.bind_ok e;obtain⟨l,O2,e2,e⟩:=Res.bind_ok e;obtain⟨h,O3,e3,e⟩:=Res.bind_ok e;split at e
 ·rename_i y hg;cases e;refine⟨ρ,_,F,as,_,_,r,s,e1,λv H1 F1 u J U hv=>?_⟩;refine⟨ρ,_,F1,u,_,_,U,s.step J,e2,λH2 F2 n I T=>?_⟩;have f:=J.trans I;refine⟨ρ,_,F2,n,_,_,T,s.step f,e3,λH3 F3 g G B=>?_⟩;have c:=f.trans G;exact⟨_,F3,g,_,_,B,Sv.lk (Sv.gr (Sv.gr hv I) G) B,hg,λL H' F' g' W Z=>k L H' F' g (c.trans g') W (fB _ _ _ _ _ _ _ (λa ha=>c.dm a ha) Z)⟩
 ·cases e
def Lks(K:Frag)(H F:Hp)(a:List Addr):List V->List D->Prop
 | [],[]=>True
 |v::vs,d::ds=>Lk K H F a v d/\Lks K H F a vs ds
 | _,_=>False
theorem cN.lks{K:Frag}{mg:Str->Option Value}{O:aq}{H F:Hp}{a:List Addr}(r:RlO K mg O H F a):∀{ms:List Md}{vs:List V}{ds:List D},cN K H F a ms vs ds->Lks K H F a vs (ds.map (bG O))
 | [],[],[],_=>trivial
 |m::ms,v::vs,d::ds,h=>by
  refine⟨?_,cN.lks r h.2⟩
  have h1:Sv K H F a v d:=by
   cases m with
   |v=>exact .inl h.1
   |s=>exact h.1
   |o=>exact h.1
  exact h1.lk r
 | [],[],_::_,h=>h.elim
 | [],_::_,[],h=>h.elim
 | [],_::_,_::_,h=>h.elim
 | _::_,[],[],h=>h.elim
 | _::_,[],_::_,h=>h.elim
 | _::_,_::_,[],h=>h.elim
def rC(K:Frag)(mg:Str->Option Value)(g:List D->Option D):List V->Hp->VK->Prop:=λn H Q=>∃O F c m d,RlO K mg O H F c/\Lks K H F c n m/\g m=some d /\
 ∀l f j,Gr H F c f j c->RlO K mg O f j c->Ow K (λa=>H a=none) f j c l d->Q l f
abbrev mW(X:Cx)(f:Value)(g:List D->Option D):Prop:=iY X f (rC X.K X.mg g)
def bK(g:List D->Option D)(c:M (List D)):M D:=λρ O=>(c ρ O).bind λf a=>match g (f.map (bG a)) with
 |some d=>.ok d a
 |none=>.no
theorem v5{K:Frag}{mg:Str->Option Value}{g:List D->Option D}{ms:List Md}{j:M (List D)}{σ:St}{H:Hp}{Q:VK}(q:tM K mg md P (rO K) (bK g j) σ H Q):tCB (rC K mg g) (tMA K mg md P ms j) σ H Q:=by
 obtain⟨ρ,O,F,I,d,Z,r,s,e,k⟩:=q;obtain⟨W,Y,G,e⟩:=Res.bind_ok e;split at e
 ·rename_i y B;cases e;refine⟨ρ,_,F,I,_,_,r,s,G,λU H1 L c l f x=>?_⟩;exact⟨_,L,c,_,_,f,x.lks f,B,λm J T E n u=>k m J T c (l.trans E) n (fB _ _ _ _ _ _ _ (λa C=>l.dm a C) u)⟩
 ·cases e
theorem gj{x:Str}{p a:Pos}{e:Expr}{es:List Expr}{j:String}{g:List D->Option D}{ms:List Md}{f:M (List D)}(u:mW X (.builtin j) g)(m:X.mg x=none)(y:AE X md P ms (e::es) f)(hv:bootBuiltins x=some (.builtin j):=by decide +kernel)(n:Gl X x:=by rfl)
  (l:x≠"__name__":=by decide) (d:(x == ("__debug__":Str))=false:=by decide) (r:starEach (e::es) X.env=(false,eval e X.env)::starEach es X.env:=by exact dH rfl) (c:(backTo a (starEach es X.env)).any (·.1)=false:=by exact eH rfl):
  OE X md P (.Call (.Name x p) (e::es) [] a) (bK g f):=(Ds u n m hv y l d r c).imp λ_ _ _ q=>v5 q
theorem rG{x:Str}{p a:Pos}{e:Expr}{es:List Expr}{T:String}{g:List D->Option D}{ms:List Md}{f:M (List D)}(r:mW X (.type T) g)(l:X.mg x=none)(u:AE X md P ms (e::es) f)(hv:bootBuiltins x=some (.type T):=by decide +kernel)(m:Gl X x:=by rfl)
  (j:x≠"__name__":=by decide) (d:(x == ("__debug__":Str))=false:=by decide) (n:starEach (e::es) X.env=(false,eval e X.env)::starEach es X.env:=by exact dH rfl) (c:(backTo a (starEach es X.env)).any (·.1)=false:=by exact eH rfl):
  OE X md P (.Call (.Name x p) (e::es) [] a) (bK g f):=(Dt r m l hv u j d n c).imp λ_ _ _ q=>v5 q
theorem Lks.one{K:Frag}{H F:Hp}{a:List Addr}{vs:List V}{d:D}(h:Lks K H F a vs [d]):∃v,vs=[v]/\Lk K H F a v d:=by
 cases vs with
 |nil=>exact h.elim
 |cons v vs =>
  cases vs with
  |nil=>exact⟨v,rfl,h.1⟩
  |cons u c=>exact h.2.elim
theorem Lks.two{K:Frag}{H F:Hp}{a:List Addr}{vs:List V}{d e:D}(h:Lks K H F a vs [d,e]):∃v u,vs=[v,u]/\Lk K H F a v d/\Lk K H F a u e:=by
 cases vs with
 |nil=>exact h.elim
 |cons v vs =>
  cases vs with
  |nil=>exact h.2.elim
  |cons u us =>
   cases us with
   |nil=>exact⟨v,u,rfl,h.1,h.2.1⟩
   |cons w c=>exact h.2.2.elim
def cR:List D->Option D
 | [.str l]=>if l.length<=1000000 then some (.int l.length) else none
 | [.lst ds]=>some (.int ds.length)
 | [.tup ds]=>some (.int ds.length)
 | _=>none
theorem gP:mW X (.builtin "len") cR:=by
 intro pins s σ H f g Q I j h;obtain⟨O,F,q,n,d,r,a,e,k⟩:=h;unfold cR at e;split at e
 ·rename_i l;obtain⟨v,rfl,c⟩:=a.one;split at e
  ·rename_i m;cases e;cases(c.rp rfl).unS;refine call_len pins s σ H _ g Q I j ⟨_,_,rfl,⟨by rw[eG];exact gG m,rfl⟩,?_⟩;rw[eG];exact cQ r k rfl Rp.int
  ·cases e
 ·rename_i l;obtain⟨v,rfl,c⟩:=a.one;cases e;obtain⟨p,f,rfl,h1,h2⟩:=c.list r.fh;refine call_len pins s σ H _ g Q I j ⟨_,_,rfl,.inl ⟨f,h1.sq,rfl⟩,?_⟩;rw[h2.length];exact cQ r k rfl Rp.int
 ·rename_i l;obtain⟨v,rfl,c⟩:=a.one;cases e;obtain⟨p,f,rfl,h1,h2⟩:=(c.rp rfl).unT;refine call_len pins s σ H _ g Q I j ⟨_,_,rfl,.inr ⟨f,Same.seqT r.fh h1,rfl⟩,?_⟩;rw[h2.length];exact cQ r k rfl Rp.int
 ·cases e
def Tt:List D->Option D
 | [.int i,.int j]=>some (.int (if j>i then j else i))
 | _=>none
def Tu:List D->Option D
 | [.int i,.int j]=>some (.int (if j<i then j else i))
 | _=>none
def iI:List D->Option D
 | [.int i]=>some (.int i)
 | [.bl b]=>some (.int (if b then 1 else 0))
 | _=>none
theorem Fz:mW X (.type "int") iI:=by
 intro pins s σ H j f Q I g h;obtain⟨O,F,m,l,d,r,a,e,k⟩:=h;unfold iI at e;split at e
 ·obtain⟨v,rfl,c⟩:=a.one;cases e;cases(c.rp rfl).unI;exact Dh pins s σ H _ f Q I g (.inl ⟨_,rfl,cQ r k rfl Rp.int⟩)
 ·obtain⟨v,rfl,c⟩:=a.one;cases e;cases(c.rp rfl).unB;exact Dh pins s σ H _ f Q I g (.inr ⟨_,rfl,cQ r k rfl Rp.int⟩)
 ·cases e
def lH:List D->Option D
 | [.lst ds]=>some (.lst ds)
 | [.tup ds]=>some (.lst ds)
 | _=>none
theorem FJ:mW X (.type "list") lH:=by
 intro pins s σ H c j Q I m h;obtain⟨O,F,q,n,d,r,a,e,k⟩:=h;unfold lH at e;split at e
 ·obtain⟨v,rfl,f⟩:=a.one;cases e;obtain⟨p,c,rfl,h1,h2⟩:=f.list r.fh;exact DG pins s σ H _ j Q I m ⟨p,c,rfl,.inl h1.sq,λl g=>mR r k g h2⟩
 ·obtain⟨v,rfl,f⟩:=a.one;cases e;obtain⟨p,c,rfl,h1,h2⟩:=(f.rp rfl).unT;exact DG pins s σ H _ j Q I m ⟨p,c,rfl,.inr (Same.seqT r.fh h1),λl g=>mR r k g h2⟩
 ·cases e
def gQ:List D->Option (List Int)
 | []=>some []
 | .int b::ds=>(gQ ds).map (b :: ·)
 | _=>none
theorem Rps.ints{K:Frag}{F:Hp}{a:List Addr}:∀{ds:List D}{xs:List V}{bs:List Int},Rps K F a xs ds->gQ ds=some bs->xs=bs.map V.int
 | [],xs,bs,h,e=>by cases e;rw[h.un0];rfl
 |d::ds,xs,bs,h,e=>by
  obtain⟨x,r,rfl,h2,h3⟩:=h.un
  cases d with
  |int b =>
   unfold gQ at e
   cases q:gQ ds with
   |none=>rw[q] at e;cases e
   |some cs =>
    rw[q] at e;cases e;rw[h2.unI,Rps.ints h3 q];rfl
  | _=>cases e
def o9:List D->Option D
 | [.lst ds]=>(gQ ds).bind λns=>if(ns.all (λn=>decide (0<=n)&&decide (n<=1000000))&&decide (ns.length<=1000000))=true then some (.int ns.sum) else none
 | _=>none
theorem Tv(u:X.calm=true):mW X (.builtin "sum") o9:=by
 intro pins s σ H f g Q I j h;obtain⟨O,F,B,y,d,r,c,e,k⟩:=h;unfold o9 at e;split at e
 ·rename_i x;obtain⟨v,rfl,l⟩:=c.one;obtain⟨p,f,rfl,h1,h2⟩:=l.list r.fh
  cases q:gQ x with
  |none=>rw[q] at e;cases e
  |some ns =>
   rw[q] at e;dsimp only[Option.bind_some] at e;split at e
   ·rename_i a;rw[zm,decide_eq_true_eq,List.all_eq_true] at a;cases e;refine RX u pins s σ H _ g Q I j ⟨p,ns,rfl,?_,λn m=>?_,a.2,cQ r k rfl Rp.int⟩
    ·rw[<-h2.ints q];exact h1.sq
    ·have:=a.1 n m
     rw[zm,decide_eq_true_eq,decide_eq_true_eq] at this;exact this
   ·cases e
 ·cases e
theorem gR:bootBuiltins "len" = some (.builtin "len"):=by decide +kernel
theorem Tw:bootBuiltins "sum" = some (.builtin "sum"):=by decide +kernel
theorem FN:bootBuiltins "int" = some (.type "int"):=by decide +kernel
theorem FP:bootBuiltins "list" = some (.type "list"):=by decide +kernel
def tyD:D->Option String
 | .non=>some "NoneType"
 | .bl _=>some "bool"
 | .int _=>some "int"
 | .str _=>some "str"
 | .lst _=>some "list"
 | .tup _=>some "tuple"
 | .dic _ _=>some "dict"
 | .ob _=>none
def d9(t n:String):Bool:=t == n || (t == "bool" && n == "int")
def Tz(n:String)(m:M D):M D:=λρ O=>(m ρ O).bind λd a=>match tyD (bG a d) with
 |some t=>.ok (.bl (d9 t n)) a
 |none=>.no
theorem Lk.ty{K:Frag}{H F:Hp}{f:List Addr}{v:V}{d:D}{t:String}(h:Lk K H F f v d)(fh:Same F H)(e:tyD d=some t):TyQ K H v t:=by
 cases d with
 |non=>cases e;rw[(h.rp rfl).unN];exact .non
 |bl b=>cases e;rw[(h.rp rfl).unB];exact .bl _
 |int b=>cases e;rw[(h.rp rfl).unI];exact .int _
 |str b=>cases e;rw[(h.rp rfl).unS];exact .str _
 |lst c=>cases e;obtain⟨p,a,rfl,h1,h2⟩:=h.list fh;exact .lst h1.sq
 |tup c=>cases e;obtain⟨p,a,rfl,h1,h2⟩:=(h.rp rfl).unT;exact .tup (Same.seqT fh h1)
 |dic j g=>cases e;obtain⟨p,a,rfl,h1,h2⟩:=(h.rp rfl).unD;exact .dK (fh _ _ h1)
 |ob n=>cases e
def rH(m:M D):M (List D):=λρ O=>(m ρ O).bind λd a=>match d with
 | .lst ds=>.ok ds a
 | _=>.no
def v7(m:M D):M (List D):=λρ O=>(m ρ O).bind λd a=>match d with
 | .tup ds=>.ok ds a
 | _=>.no
theorem TF{K:Frag}{mg:Str->Option Value}{H F:Hp}{m:List Addr}{a:Addr}{xs:List V}{ds:List D}(hs:Rps K F m xs ds)(n:∀(f j:Hp) (c:List Addr),GrS P H F m f j c->(∃O,RlO K mg O f j c)->RdK K f a xs):lD K mg P (Itl K a) ds H F m:=by
 refine⟨λi d f j c g r e=>?_,λf j c g r=>⟨xs,(n f j c g r).sq,by rw[hs.length];exact zc _⟩⟩;obtain⟨x,h1,h2⟩:=hs.get' e;have q:=n f j c g r;refine⟨⟨xs,x,q.sq,h1⟩,λy u l=>?_⟩;obtain⟨rfl,l⟩:=l
 have:=l xs q.sq
 rw[h1] at this;cases this;exact⟨j,Gr.refl,λ_ r=>r,h2.grS g⟩
end
section
variable {X:Cx}{pins:List (Addr×Obj)}{σ:St}{H:Hp}{s:Shared}
end
section
variable {X:Cx}{elts:List Expr}{x1:Nat}{tpos:Pos}
end
def rW(K:Frag)(P:Pt):RR:=λ_ H F c v d=>Rp K F c v d\/∃a f g,v=.ref a/\d=.lst g/\H a=some (.lst f)/\a∉c/\P a/\Rps K F c f g
def WE(X:Cx)(md:List Md)(P:Pt)(e:Expr)(m:M D):Prop:=PE X e (tM X.K X.mg md P (rW X.K P) m)
section
variable {X:Cx}{md:List Md}{P:Pt}{R:RR}
theorem v8{e:Expr}{m:M D}(h:VE X md P e m):WE X md P e m:=h.imp λσ H Q q=>by
 obtain⟨ρ,O,F,j,d,l,r,s,e,k⟩:=q;exact⟨ρ,O,F,j,d,l,r,s,e,λv n u a g c f=>k v n u a g c (.inl f)⟩
theorem FQ(i:Nat){x:Str}{a:Pos}(g:md[i]?=some .s:=by rfl)(hN:X.N[i]?=some x:=by rfl)(f:Vis X.env.scope x:=by first | exact Or.inl rfl | exact Or.inr (Or.inl rfl) | exact Or.inr (Or.inr rfl))
  (hd:(x == ("__debug__":Str))=false:=by decide) (c:(x == ("__classdict__":Str))=false:=by decide):WE X md P (.Name x a) (aa i):=by
 refine(kJ (i:=i) hN f hd c).imp λσ H Q h=>?_
 obtain⟨ρ,O,F,l,d,m,r,s,e,k⟩:=h;obtain⟨j,rfl⟩:=qY e;obtain⟨v,h2,h3⟩:=s.sl i .s d g j;exact⟨v,h2,k v H F l Gr.refl r h3⟩
theorem TJ{K:Frag}{mg:Str->Option Value}{N:Addr->Prop}{H F:Hp}{j:List Addr}{v:V}{ds:List D}(hv:rW K P N H F j v (.lst ds)):
  ∃a xs,v=.ref a/\Rps K F j xs ds/\∀(d f:Hp) (c:List Addr),GrS P H F j d f c->(∃O,RlO K mg O d f c)->RdK K d a xs:=by
 rcases hv with hv | ⟨a,xs,u,rfl,e,q,n,m,l⟩
 ·obtain⟨a,xs,rfl,h1,h2⟩:=hv.unL;exact⟨a,xs,rfl,h2,λd f c g ⟨O,r⟩=>(h1.mono g.ff).mono r.fh⟩
 ·cases e;exact⟨a,xs,rfl,l,λd f c g _=>.inl (.inl (g.fr _ _ m q n rfl))⟩
theorem TQ{n e:Expr}{m:M D}(h:WE X md P e m):VI X md P n e (rH m):=(CP h).imp λσ H Q q=>by
 obtain⟨ρ,O,F,B,C,G,r,s,e,k⟩:=q;obtain⟨d,E,y,e⟩:=Res.bind_ok e
 cases d with
 |lst es =>
  cases e;refine⟨ρ,_,F,B,_,_,r,s,y,λv g j c x f u=>?_⟩;obtain⟨a,l,rfl,h1,h2⟩:=TJ (mg:=X.mg) u;exact⟨a,rfl,⟨l,(h2 g j c GrS.refl ⟨_,f⟩).sq⟩,k _ g j c x f (TF h1 h2)⟩
 | _=>cases e
theorem FT{I e:Expr}{m:M D}(h:VE X md P e m):VI X md P I e (v7 m):=(Oj h).imp λσ H Q q=>by
 obtain⟨ρ,O,F,U,W,Z,r,s,e,k⟩:=q;obtain⟨d,Y,T,e⟩:=Res.bind_ok e
 cases d with
 |tup es =>
  cases e;refine⟨ρ,_,F,U,_,_,r,s,T,λv C E l L G J=>?_⟩;obtain⟨a,n,rfl,h1,h2⟩:=Rp.unT J
  have B:∀(f j:Hp) (c:List Addr),GrS P C E l f j c->(∃O,RlO X.K X.mg O f j c)->SqT X.K f a n:=λf j c g ⟨O,r⟩=>Same.seqT r.fh (Same.seqT g.ff h1)
  refine⟨a,rfl,⟨n,B C E l GrS.refl ⟨_,G⟩⟩,k _ C E l L G ⟨λi d f j c g r e=>?_,λf j c g r=>⟨n,B f j c g r,by rw[h2.length];exact zc _⟩⟩⟩;obtain⟨x,h3,h4⟩:=h2.get' e;have q:=B f j c g r;refine⟨⟨n,x,q,h3⟩,λy H3 u=>?_⟩;obtain⟨rfl,u⟩:=u
  have:=u n q
  rw[h3] at this;cases this;exact⟨j,Gr.refl,λ_ r=>r,h4.grS g⟩
 | _=>cases e
def jY(l:List Nat):List D:=l.map λc=>.str [c]
def v9(m:M D):M (List D):=λρ O=>(m ρ O).bind λd a=>match d with
 | .str l=>if ascii l=true then .ok (jY l) a else .no
 | _=>.no
theorem wg{K:Frag}{mg:Str->Option Value}{J:It}{ds:List D}{H F:Hp}{f:List Addr}(h1:∀(i:Nat) (d:D) (a:Hp),ds[i]?=some d->J.go i a/\∀x c,J.yld i a x c->c=a/\∀K F f,Rp K F f x d)(h2:∀a,J.stop ds.length a):lD K mg P J ds H F f :=
 ⟨λi d a j l _ _ e=>⟨(h1 i d a e).1,λx c y=>by
  obtain⟨rfl,g⟩:=(h1 i d a e).2 x c y
  exact⟨j,Gr.refl,λ_ r=>r,g _ _ _⟩⟩,λa _ _ _ _=>h2 a⟩
theorem FW{j e:Expr}{m:M D}(h:SE X md P e m):VI X md P j e (v9 m):=(RW h).imp λσ H Q q=>by
 obtain⟨ρ,O,F,E,L,W,r,s,e,k⟩:=q;obtain⟨d,U,a,e⟩:=Res.bind_ok e
 cases d with
 |str l =>
  dsimp only at e;split at e
  ·rename_i B;cases e;refine⟨ρ,_,F,E,_,_,r,s,a,λv I J f C n u=>?_⟩;refine⟨l,(Sv.rp u rfl).unS,B,k _ I J f C n (wg (λi d G e=>?_) λG=>by simp[jY,Its])⟩;unfold jY at e;rw[zD] at e
   cases q:l[i]? with
   |none=>rw[q] at e;cases e
   |some c =>
    rw[q] at e;cases e;refine⟨(zr.mp q).1,λx Y y=>?_⟩;obtain⟨a,T,g,rfl⟩:=y;rw[q] at g;cases g;exact⟨a,λ_ _ _=>Rp.str⟩
  ·cases e
 | _=>cases e
def fP(lo:Int)(n:Nat):List D:=(List.range n).map λ(k:Nat)=>.int (lo+(k:Int))
def jA(m:M (List D)):M (List D):=λρ O=>(m ρ O).bind λa c=>match a with
 | [.int j]=>if j<=1000000000/\-1000000000<=j then .ok (fP 0 j.toNat) c else .no
 | _=>.no
theorem TV{K:Frag}{mg:Str->Option Value}{lo:Int}{n:Nat}{H F:Hp}{f:List Addr}:lD K mg P (Itr lo n) (fP lo n) H F f:=wg (λi d g e=>by
 unfold fP at e;rw[zD] at e
 by_cases a:i<n
 ·rw[List.getElem?_range a] at e;cases e;refine⟨a,λx j y=>?_⟩;obtain⟨c,rfl⟩:=y;exact⟨c,λ_ _ _=>Rp.int⟩
 ·rw[jj (by simpa using a)] at e
  cases e) λg=>by simp[fP,Itr]
theorem cN.one{K:Frag}{H F:Hp}{a:List Addr}{m:Md}{vs:List V}{d:D}(h:cN K H F a [m] vs [d]):∃v,vs=[v]/\rA K m (λ_=>True) H F a v d:=by
 cases vs with
 |nil=>exact h.elim
 |cons v vs =>
  cases vs with
  |nil=>exact⟨v,rfl,h.1⟩
  |cons u c=>exact h.2.elim
theorem cN.two{K:Frag}{H F:Hp}{a:List Addr}{m n:Md}{vs:List V}{d e:D}(h:cN K H F a [m,n] vs [d,e]):∃v u,vs=[v,u]/\rA K m (λ_=>True) H F a v d/\rA K n (λ_=>True) H F a u e:=by
 cases vs with
 |nil=>exact h.elim
 |cons v vs =>
  cases vs with
  |nil=>exact h.2.elim
  |cons u us =>
   cases us with
   |nil=>exact⟨v,u,rfl,h.1,h.2.1⟩
   |cons w c=>exact h.2.2.elim
theorem wj{g a:Expr}{p c:Pos}{m:M (List D)}(x:X.mg "range" = none)(B:AE X md P [.s] [a] m)(y:Gl X "range":=by rfl)(u:starEach [a] X.env=[(false,eval a X.env)]:=by exact R9 rfl):VI X md P g (.Call (.Name "range" p) [a] [] c) (jA m):=(Oo y x B u).imp λσ H Q q=>by
 obtain⟨ρ,O,F,G,W,Z,r,s,e,k⟩:=q;obtain⟨U,Y,E,e⟩:=Res.bind_ok e;split at e
 ·rename_i j;split at e
  ·rename_i T;cases e;refine⟨ρ,_,F,G,_,_,r,s,E,λL I J f C l n=>?_⟩;obtain⟨v,rfl,d⟩:=n.one
   have:=(Sv.rp d rfl).unI
   subst this;exact⟨j,rfl,by omega,by omega,k _ I J f C l TV⟩
  ·cases e
 ·cases e
def ph:Nat->List D->List D
 | _,[]=>[]
 |k,d::ds=>.tup [.int k,d]::ph (k+1) ds
variable {elts:List Expr}{x1:Nat}{tpos:Pos}
def iJ:List D->Option (List (List Nat))
 | []=>some []
 | .str l::ds=>(iJ ds).map (l :: ·)
 | _=>none
theorem Rps.strs{K:Frag}{F:Hp}{a:List Addr}:∀{ds:List D}{xs:List V}{ls:List (List Nat)},Rps K F a xs ds->iJ ds=some ls->xs=ls.map λl=>V.str (S l)
 | [],xs,bs,h,e=>by cases e;rw[h.un0];rfl
 |d::ds,xs,bs,h,e=>by
  obtain⟨x,r,rfl,h2,h3⟩:=h.un
  cases d with
  |str b =>
   unfold iJ at e
   cases q:iJ ds with
   |none=>rw[q] at e;cases e
   |some cs =>
    rw[q] at e;cases e;rw[h2.unS,Rps.strs h3 q];rfl
  | _=>cases e
def pq(m:M D):M D:=λρ O=>(m ρ O).bind λd a=>match bG a d with
 | .lst ds=>match iJ ds with
  |some ls=>if(ls.map List.length).sum<=1000000 then .ok (.str ls.flatten) a else .no
  |none=>.no
 | _=>.no
theorem TX{e:Expr}{j:Nat}{p apos c:Pos}{m:M D}(h:SE X md P e m){x:Str}(G:x=S []:=by decide +kernel)
  (n:((backTo c (starEach [e] X.env)).all (λx=>!x.1)&&(backToKw c (keywordEach [] X.env)).all (λx=>x.1.isSome)&&decide ([e].length+([]:List Keyword).length+(if([]:List Keyword).isEmpty then 0 else 1)<30))=true:=by rfl)
  (g:(apos.endLine == c.line)=true:=by rfl) (C:starEach [e] X.env=(false,eval e X.env)::starEach [] X.env:=by exact dH rfl) (l:attributeBase (.Constant (.str x) j p) "join" X.env (eval (.Constant (.str x) j p) X.env)=eval (.Constant (.str x) j p) X.env:=by rfl) (f:(backTo c (starEach [] X.env)).any (·.1)=false:=by exact eH rfl):
  OE X md P (.Call (.Attribute (.Constant (.str x) j p) "join" apos) [e] [] c) (pq m):=
 (DN PySem.F.plainAttrs_str PySem.F.slot_str_join PySem.F.type_str_join (R6 X.K) (Cr (x:=x)) (qO h qN C) l n g C f).imp λσ H Q q=>by
  obtain⟨ρ,O,F,T,d,O',r,s,e,k⟩:=q;obtain⟨y,U,L,e⟩:=Res.bind_ok e
  cases ed:bG U y with
  |lst ds =>
   rw[ed] at e;dsimp only at e
   cases es:iJ ds with
   |none=>rw[es] at e;cases e
   |some ls =>
    rw[es] at e;dsimp only at e;split at e
    ·rename_i E;cases e;refine⟨rfl,ρ,_,F,T,_,_,r,s,L,λv W Y B J u I=>?_⟩;have q:=Sv.lk I u;rw[ed] at q;obtain⟨a,Z,rfl,h1,h2⟩:=q.list u.fh;refine⟨a,ls,by rw[G],rfl,?_,E,k _ W Y B J u (.inl ⟨rfl,Rp.str⟩)⟩;rw[<-h2.strs es];exact h1.sq
    ·cases e
  | _=>rw[ed] at e;cases e
def TY(c m:M D):M D:=λρ O=>(c ρ O).bind λa f=>(m ρ f).bind λb d=>match a,b with
 | .str l,.str n=>.ok (.bl (decide (l.take n.length=n))) d
 | _,_=>.no
end
section
variable {K:Frag}{mg:Str->Option Value}{md:List Md}{P:Pt}{ρ:aA}{σ:St}{H F:Hp}{as:List Addr}{O:aq}{i:Nat}{a:Addr}{xs xs':List V}{ds ds':List D}
theorem SlO.own(s:SlO K md P ρ σ H F as)(d:md[i]?=some .o)(c:ρ[i]?=some (some (.lst ds))):∃a xs,σ[i]?=some (some (.ref a))/\H a=some (.lst xs)/\F a=none/\a∉as/\¬P a/\Rps K F as xs ds:=by
 obtain⟨v,h1,h2⟩:=s.sl i .o _ d c
 rcases h2 with⟨h2,_⟩ | ⟨a,xs,q,rfl,m,l,n,j,g,f⟩
 ·cases h2
 ·cases m;exact⟨a,xs,h1,l,n,j,g,f⟩
theorem SlO.mut(s:SlO K md P ρ σ H F as)(I:md[i]?=some .o)(B:ρ[i]?=some (some (.lst ds)))(y:σ[i]?=some (some (.ref a)))(hF:F a=none)(ha:a∉as)(Z:¬P a)(r:Rps K F as xs' ds'):SlO K md P (ρ.set i (some (.lst ds'))) σ (upd H a (.lst xs')) F as:=by
 have hi:i<md.length:=(zr.mp I).1;refine⟨s.len,by rw[jc];exact s.len',λc p=>?_,λj m d J u=>?_,λj k c g fs h1 h2 h3 h4 h5 h6=>?_,λx hx=>?_⟩
 ·have:=s.pd c p
  unfold upd
  split
  ·exact λz=>nomatch z
  ·exact this
 ·by_cases h:i=j
  ·subst h;rw[I] at J;cases J;rw[zP (by rw[s.len'];exact hi)] at u;cases u;exact⟨_,y,.inr ⟨a,xs',ds',rfl,rfl,bI,hF,ha,Z,r⟩⟩
  ·rw[zt h] at u;obtain⟨v,Y,l⟩:=s.sl j m d J u;refine⟨v,Y,?_⟩
   cases m with
   |v=>exact l
   |s =>
    rcases l with l | ⟨c,T,g,G,E,R,Q,C,L⟩
    ·exact .inl l
    ·exact .inr ⟨c,T,g,G,E,by rw[aL (λz=>Z (by rw[<-z];exact C))];exact R,Q,C,L⟩
   |o =>
    rcases l with l | ⟨c,T,g,G,E,R,z0,Q,C,L⟩
    ·exact .inl l
    ·refine .inr ⟨c,T,g,G,E,?_,z0,Q,C,L⟩;rw[aL]
     ·exact R
     ·intro z;subst z G E;exact h (s.inj i j c ds g I J B u y Y)
 ·have f:∀k g,(ρ.set i (some (.lst ds')))[k]?=some (some (D.lst g))->∃n,ρ[k]?=some (some (D.lst n)):=λk g q=>by
   by_cases h:i=k
   ·subst h;exact⟨ds,B⟩
   ·rw[zt h] at q;exact⟨g,q⟩
  obtain⟨n,q3⟩:=f j g h3;obtain⟨X,q4⟩:=f k fs h4;exact s.inj j k c n X h1 h2 q3 q4 h5 h6
 ·obtain⟨U,p2,p3⟩:=s.pin x hx
  have W:i≠x.1:=λz=>by rw[<-z,I] at U;cases U
  exact⟨U,by rw[zt W];exact p2,p3⟩
theorem T3{xs:List V}(f:H a=some (.lst xs))(d:¬P a){o:HO}:GrS P H F as (upd H a o) F as :=
 ⟨λ_ _ _ _ _ _=>rfl,Same.refl F,⟨[],by simp,λ_ h=>nomatch h⟩,λc u p e _ _=>by rw[aL (λz=>d (by rw[<-z];exact p))];exact e,λc e=>by
  by_cases h:c=a
  ·subst h;rw[bI] at e;cases e
  ·rwa [aL h] at e,λc g u e=>by rw[aL (λz=>by rw[z,f] at e;cases e)];exact e⟩
theorem RlO.mut(r:RlO K mg O H F as)(j:F a=none)(g:a∉as){o:HO}:RlO K mg O (upd H a o) F as:=by
 refine⟨λc u e=>?_,r.fd,r.nd,r.len,r.fa,λn c u d f=>(r.ob n c u d f).keep (aL ?_) (Same.refl F) λ_ _ h=>h⟩
 ·rw[aL (cz e j)];exact r.fh c u e
 ·intro z;subst z;exact g (zJ d)
end
section
variable {X:Cx}{md:List Md}{P:Pt}{R:RR}
def cT(i:Nat)(m:M D):MS:=λρ O=>match m ρ O with
 | .ok d O'=>match ρ[i]? with
  |some (some (.lst ds))=>if ds.length<1000000 then .nx (ρ.set i (some (.lst (ds++[d])))) O' else .no
  | _=>.no
 | .ex x O'=>.ex x O'
 | .no=>.no
theorem T4{i:Nat}{m:M D}{ρ:aA}{O:aq}(K:Frag)(mg:Str->Option Value){D:Ends}{H F:Hp}{c:List Addr}(k:ju K mg md P R D H F c (cT i m ρ O)):
  ∃d a ds,m ρ O=.ok d a/\ρ[i]?=some (some (.lst ds))/\ds.length<1000000/\ju K mg md P R D H F c (.nx (ρ.set i (some (.lst (ds++[d])))) a):=by
 unfold cT at k;split at k
 ·rename_i d a e;split at k
  ·rename_i ds g;split at k
   ·rename_i f;exact⟨d,a,ds,e,g,f,k⟩
   ·exact False.elim k
  ·exact False.elim k
 ·exact False.elim k
 ·exact False.elim k
theorem jB(i:Nat){x:Str}{p apos c n:Pos}{e:Expr}{m:M D}(h:VE X md P e m)(T:md[i]?=some .o:=by rfl)(hN:X.N[i]?=some x:=by rfl)(hv:Vis X.env.scope x:=by first | exact Or.inl rfl | exact Or.inr (Or.inl rfl) | exact Or.inr (Or.inr rfl))
  (hd:(x == ("__debug__":Str))=false:=by decide) (E:(x == ("__classdict__":Str))=false:=by decide)
  (j:attributeBase (.Name x p) "append" X.env (eval (.Name x p) X.env)=eval (.Name x p) X.env:=by rfl)
  (u:((backTo c (starEach [e] X.env)).all (λx=>!x.1)&&(backToKw c (keywordEach [] X.env)).all (λx=>x.1.isSome)&&decide ([e].length+([]:List Keyword).length+(if([]:List Keyword).isEmpty then 0 else 1)<30))=true:=by rfl)
  (g:(apos.endLine == c.line)=true:=by rfl) (Q:starEach [e] X.env=(false,eval e X.env)::starEach [] X.env:=by exact dH rfl) (f:(backTo c (starEach [] X.env)).any (·.1)=false:=by exact eH rfl)
  (C:swapsWith (.Call (.Attribute (.Name x p) "append" apos) [e] [] c) none n.line X.env=pure false:=by rfl):
  VS X md P R (.Expr (.Call (.Attribute (.Name x p) "append" apos) [e] [] c) n) (cT i m):=
 (CG (DN PySem.F.plainAttrs_list PySem.F.slot_list_append PySem.F.type_list_append Q7 (kJ (i:=i) hN hv hd E) (qO h qN Q) j u g Q f) C).imp λD σ H q=>by
  obtain⟨ρ,O,F,as,r,s,k⟩:=q;obtain⟨d,O',ds,e,Y,hz,k⟩:=T4 X.K X.mg k;obtain⟨a,I,h1,h2,h3,h4,W,U⟩:=s.own T Y;refine⟨_,h1,.inl ⟨rfl,I,.inl (.inl h2)⟩,ρ,O,F,as,d,O',r,s,e,λy H1 Z G l r1 hy=>?_⟩;have s1:=s.step l
  have hn:H a≠none:=by rw[h2];exact λz=>nomatch z
  have B:=l.fr _ _ h2 h4 rfl
  have L:Z a=none:=by rw[l.fz a _ h2 h4 rfl];exact h3
  have J:=l.out h4 hn
  have hn1:H1 a≠none:=by rw[B];exact λz=>nomatch z
  exact⟨a,I,y,rfl,rfl,B,by rw[U.length];exact zF hz (by decide),k σ _ Z G (l.toS.trans (T3 B W)) (r1.mut L J) (s1.mut T Y h1 L J W ((U.gr l).snoc hy))⟩
def T5(i:Nat)(m:M D):MS:=λρ O=>match m ρ O with
 | .ok d O'=>match ρ[i]?,bG O' d with
  |some (some (.lst ds)),.lst es=>if ds.length+es.length<=1000000 then .nx (ρ.set i (some (.lst (ds++es)))) O' else .no
  | _,_=>.no
 | .ex x O'=>.ex x O'
 | .no=>.no
end
def putD(f:Str)(v:D):List (Str×D)->List (Str×D)
 | []=>[(f,v)]
 | (g,x)::r=>if g=f then(g,v)::r else(g,x)::putD f v r
section
variable {K:Frag}{F:Hp}{as:List Addr}
theorem FsR.cons_inv{gs:List (Str×V)}{f:Str}{d:D}{fs:List (Str×D)}(h:FsR K F as gs ((f,d)::fs)):∃v a,gs=(f,v)::a/\Rp K F as v d/\FsR K F as a fs:=by
 obtain⟨h1,h2⟩:=h
 cases gs with
 |nil=>cases h1
 |cons g a =>
  obtain⟨j,c⟩:=g;simp only[zd,List.cons.injEq] at h1;obtain⟨x,r,e,h3,h4⟩:=h2.un;simp only[zd,List.cons.injEq] at e;obtain⟨rfl,rfl⟩:=e;exact⟨c,a,by rw[h1.1],h3,⟨h1.2,h4⟩⟩
theorem FsR.nil_inv{gs:List (Str×V)}(h:FsR K F as gs []):gs=[]:=List.map_eq_nil_iff.mp h.nm
theorem FsR.get:∀{fs:List (Str×D)}{gs:List (Str×V)}{f:Str}{d:D},FsR K F as gs fs->fs.lookup f=some d->∃v,gs.lookup f=some v/\Rp K F as v d
 | [],_,_,_,_,e=>by cases e
 | (g,x)::fs,gs,f,d,h,e=>by
  obtain⟨v,a,rfl,h1,h2⟩:=h.cons_inv;rw[List.lookup_cons] at e ⊢
  cases q:f == g with
  |true =>
   rw[q] at e;cases e;exact⟨v,rfl,h1⟩
  |false =>
   rw[q] at e;exact FsR.get h2 e
theorem FsR.no:∀{fs:List (Str×D)}{gs:List (Str×V)}{f:Str},FsR K F as gs fs->fs.lookup f=none->gs.lookup f=none
 | [],_,_,h,e=>by rw[h.nil_inv];rfl
 | (g,x)::fs,gs,f,h,e=>by
  obtain⟨v,a,rfl,h1,h2⟩:=h.cons_inv;rw[List.lookup_cons] at e ⊢
  cases q:f == g with
  |true=>rw[q] at e;cases e
  |false =>
   rw[q] at e;exact FsR.no h2 e
theorem FsR.put{f:Str}{v:V}{d:D}(hv:Rp K F as v d):∀{fs:List (Str×D)}{gs:List (Str×V)},FsR K F as gs fs->FsR K F as (dF f v gs) (putD f d fs)
 | [],_,h=>by
  rw[h.nil_inv];exact⟨rfl,Rps.cons hv Rps.nil⟩
 | (g,x)::fs,gs,h=>by
  obtain⟨u,c,rfl,h1,h2⟩:=h.cons_inv;rw[dF,putD]
  by_cases q:g=f
  ·rw[if_pos q,if_pos q];exact⟨by simp[h2.nm],Rps.cons hv h2.vl⟩
  ·rw[if_neg q,if_neg q];have a:=FsR.put (f:=f) hv h2;exact⟨by simp[a.nm],Rps.cons h1 a.vl⟩
theorem FsR.length{fs:List (Str×D)}{gs:List (Str×V)}(h:FsR K F as gs fs):gs.length=fs.length:=by
 have:=congrArg List.length h.nm
 simpa using this
theorem RlO.set{mg:Str->Option Value}{O:aq}{H:Hp}{n:Nat}{a:Addr}{o:Ob}{u:HO}(r:RlO K mg O H F as)(g:as[n]?=some a)(m:ObR K mg (upd H a u) F as a o):RlO K mg (O.set n o) (upd H a u) F as:=by
 have q:=r.fa a (zJ g);refine⟨λc w e=>?_,r.fd,r.nd,by rw[jc];exact r.len,r.fa,λk c w f d=>?_⟩
 ·rw[aL (cz e q)];exact r.fh c w e
 ·by_cases h:n=k
  ·subst h;rw[g] at f;cases f;rw[zP (by rw[<-r.len];exact(zr.mp g).1)] at d;cases d;exact m
  ·rw[zt h] at d
   refine(r.ob k c w f d).keep (aL ?_) (Same.refl F) λ_ _ h=>h
   intro z;subst z;obtain⟨y,l⟩:=zr.mp g;obtain⟨x,j⟩:=zr.mp f;exact h ((List.getElem_inj r.nd).mp (l.trans j.symm))
end
def KC(K:Frag)(mg:Str->Option Value)(c f:Str):Prop:=∃C,mg c=some (.ref C)/\Cls K C/\kW K C f
section
variable {X:Cx}{md:List Md}{P:Pt}{R:RR}
def eQ(cs:List Str)(f:Str)(m:M D):M D:=λρ O=>(m ρ O).bind λd a=>match d with
 | .ob n=>match a[n]? with
  |some (.ins c fs)=>if c∈cs then match fs.lookup f with
   |some y=>.ok y a
   |none=>.no else .no
  | _=>.no
 | _=>.no
theorem pA{cs:List Str}{f:Str}{o:Expr}{g:Pos}{m:M D}(E:∀c∈cs,KC X.K X.mg c f)(h:VE X md P o m)(G:attributeBase o f X.env (eval o X.env)=eval o X.env:=by rfl):VE X md P (.Attribute o f g) (eQ cs f m):=(Qg h G).imp λσ H Q q=>by
 obtain⟨ρ,O,F,as,d,O',r,s,e,k⟩:=q;obtain⟨x,O1,e1,e⟩:=Res.bind_ok e
 cases x with
 |ob n =>
  dsimp only at e;split at e
  ·rename_i c fs eo;split at e
   ·rename_i j;split at e
    ·rename_i y Z;cases e;refine⟨ρ,_,F,as,_,_,r,s,e1,λv H1 F1 l Y u B=>?_⟩;obtain⟨a,rfl,I⟩:=Rp.unO B;obtain⟨C,dx,W,h1,h2,h3⟩:=u.ob n a _ I eo;obtain⟨C',h4,U,T⟩:=E c j;rw[h1] at h4;cases h4;obtain⟨w,L,J⟩:=h3.get Z;exact⟨a,C,dx,W,w,rfl,h2,U,T,L,k w H1 F1 l Y u J⟩
    ·cases e
   ·cases e
  ·cases e
 | _=>cases e
def lJ(cs:List Str)(f:Str)(g a:M D):MS:=λρ O=>match a ρ O with
 | .ok d O1=>match g ρ O1 with
  | .ok (.ob n) O2=>match O2[n]? with
   |some (.ins c fs)=>if c∈cs/\fs.length<900 then .nx ρ (O2.set n (.ins c (putD f d fs))) else .no
   | _=>.no
  | _=>.no
 | .ex x O'=>.ex x O'
 | .no=>.no
theorem FZ{cs:List Str}{f:Str}{o value:Expr}{l pos':Pos}{T Q:M D}(hc:∀c∈cs,KC X.K X.mg c f)(ho:VE X md P o T)(hv:VE X md P value Q)(hs:swapsWith value (some (.Attribute o f pos')) l.line X.env=pure false:=by rfl):VS X md P R (.Assign [.Attribute o f pos'] value l) (lJ cs f T Q):=(Qh ho hv hs).imp λD σ H q=>by
 obtain⟨ρ,O,F,as,r,s,k⟩:=q;unfold lJ at k;split at k
 ·rename_i d O1 e1;split at k
  ·rename_i n O2 e2;split at k
   ·rename_i c fs eo;split at k
    ·rename_i I;refine⟨ρ,O,F,as,d,O1,r,s,e1,λy H1 F1 J Z r1 hy=>?_⟩;refine⟨ρ,O1,F1,J,.ob n,O2,r1,s.step Z,e2,λz E G j Y L hz=>?_⟩;have g:=Z.trans Y;obtain⟨a,rfl,x⟩:=Rp.unO hz;obtain⟨C,B,U,h1,h2,h3⟩:=L.ob n a _ x eo;obtain⟨C',h4,h5,h6⟩:=hc c I.1;rw[h1] at h4;cases h4;have m:=zJ x
     have hn:E a≠none:=by rw[h2];exact λz=>nomatch z
     have W:Gr E G j (upd E a (.ins C B (dF f y U))) G j:=⟨λ_ _ _ _ _=>rfl,Same.refl _,⟨[],by simp,λ_ h=>nomatch h⟩,λb u e hb _=>by rw[aL (λz=>hb (by rw[z];exact m))];exact e,λb e=>by
      by_cases h:b=a
      ·subst h;rw[bI] at e;cases e
      ·rwa [aL h] at e,λb o' u e=>by rw[aL (λz=>by rw[z,h2] at e;cases e)];exact e⟩
     refine⟨a,C,B,U,rfl,h2,h5,h6,by rw[h3.length];omega,?_⟩;exact k σ _ G j (g.trans W).toS (L.set x ⟨C,B,_,h1,bI,h3.put (Rp.gr hy Y)⟩) ((s.step g).step W)
    ·exact False.elim k
   ·exact False.elim k
  ·exact False.elim k
 ·exact False.elim k
 ·exact False.elim k
end
section
variable {Pr:Program}{w:World}{K:Frag}{mg:Str->Option Value}{base:Heap}
theorem Ga{x qual:Str}{st:Stmt}{f:Addr}{fd:FuncData}{N ps:List Str}{k:Nat}(Fn:Fun K x qual st f fd)(S:bQ N ps (aX st))
  (pm J:List Md) {R:RR}{b:MS} (Z:fj R) (I:∀N H F n,R N H F n .non .non) (G:pm.length=ps.length) (X:(pm++J).length=N.length) (W:∀m∈pm,m≠.o)
  (body:∀(j:Value) (A:Around) (outer:List Env) (s:Shared) (H:Hp) (E:XK),bj k (A.deeper (envOfC qual (aX st) s.heap.objs.size f j))->∀P,VSs ((f9 CX0 Pr w K mg base N qual (aX st) f j A outer s H E).nox) (pm++J) P R (di st) b):
  cj Pr w K mg base CX0 (k+1) f fd ps (vSp K mg pm R (bV N.length b)):=by
 refine Fn.ok S (λL H Q E h=>?_) (λj A outer s H L Q E U h=>?_)
 ·obtain⟨y,O,F,n,d,O',r,a,_⟩:=h;rw[a.len.1,G]
 ·obtain⟨y,O,F,n,d,O',r,a,e,q⟩:=h;refine⟨_,body j A outer s H E U (Pt.all H),?_⟩;refine⟨_,O,F,n,r,Fj a X W,?_⟩;unfold bV at e
  cases eb:b (y.map some++List.replicate (N.length - y.length) none) O with
  |rt d' O2 =>
   rw[eb] at e;cases e
   exact λv B C l g u T=>q v B C l g.gr u (Z _ _ _ _ _ _ _ (λc Y=>Classical.not_not.mp Y) T)
  |nx ρ O2 =>
   rw[eb] at e;cases e
   exact λσ' B C l g u _=>q _ B C l g.gr u (I _ _ _ _)
  |bk _ _=>rw[eb] at e;cases e
  |ct _ _=>rw[eb] at e;cases e
  |ex _ _=>rw[eb] at e;cases e
  |no=>rw[eb] at e;cases e
def lK(K:Frag)(mg:Str->Option Value)(c m qual:Str)(st:Stmt):Prop:=∃C f fd,mg c=some (.ref C)/\Cls K C/\kY K C m f/\Fun K m qual st f fd
def fQ(P:Program)(w:World)(K:Frag)(mg:Str->Option Value)(base:Heap)(c m:Str)(ps:List Str)(k:Nat)(sp:Sp):Prop :=
 ∃C f fd,mg c=some (.ref C)/\Cls K C/\kY K C m f/\Binds K fd ps []/\cj P w K mg base CX0 k f fd ps sp
def rJ(P:Program)(w:World)(K:Frag)(mg:Str->Option Value)(base:Heap)(c:Str)(ps:List Str)(k:Nat)(sp:Sp):Prop :=
 ∃C f fd,mg c=some (.ref C)/\Mk K C f/\Binds K fd ps []/\cj P w K mg base CX0 k f fd ps sp
def wk(K:Frag)(mg:Str->Option Value)(c qual:Str)(st:Stmt):Prop:=∃C f fd,mg c=some (.ref C)/\Mk K C f/\Fun K "__init__" qual st f fd
theorem pB{c x qual:Str}{st:Stmt}{N ps:List Str}{k:Nat}(G:lK K mg c x qual st)(S:bQ N ps (aX st))
  (r:∀(kV l pm:Value) (B:Option Addr) (a ct:Value) (us:List Value),us.length=ps.length->bindArgs (PySem.W.fnOf x qual (fc st) (di st) (aX st) .none kV l pm B a ct) ⟨us,[]⟩=pure (ps.zip us))
  (pm d:List Md) {R:RR}{b:MS} (u:fj R) (j:∀N H F y,R N H F y .non .non) (g:pm.length=ps.length:=by rfl) (q:(pm++d).length=N.length:=by rfl) (n:∀m∈pm,m≠.o:=by decide)
  (body:∀(f:Addr) (a:Value) (A:Around) (outer:List Env) (s:Shared) (H:Hp) (E:XK),bj k (A.deeper (envOfC qual (aX st) s.heap.objs.size f a))->∀P,VSs ((f9 CX0 Pr w K mg base N qual (aX st) f a A outer s H E).nox) (pm++d) P R (di st) b):
  fQ Pr w K mg base c x ps (k+1) (vSp K mg pm R (bV N.length b)):=by
 obtain⟨C,f,fd,h1,h2,h3,h4⟩:=G;exact⟨C,f,fd,h1,h2,h3,h4.binds r,Ga h4 S pm d u j g q n (body f)⟩
theorem T6{c qual:Str}{st:Stmt}{N ps:List Str}{k:Nat}(B:wk K mg c qual st)(S:bQ N ps (aX st))
  (r:∀(kV l pm:Value) (y:Option Addr) (a ct:Value) (us:List Value),us.length=ps.length->bindArgs (PySem.W.fnOf "__init__" qual (fc st) (di st) (aX st) .none kV l pm y a ct) ⟨us,[]⟩=pure (ps.zip us))
  (pm d:List Md) {R:RR}{b:MS} (u:fj R) (j:∀N H F x,R N H F x .non .non) (g:pm.length=ps.length:=by rfl) (q:(pm++d).length=N.length:=by rfl) (n:∀m∈pm,m≠.o:=by decide)
  (body:∀(f:Addr) (a:Value) (A:Around) (outer:List Env) (s:Shared) (H:Hp) (E:XK),bj k (A.deeper (envOfC qual (aX st) s.heap.objs.size f a))->∀P,VSs ((f9 CX0 Pr w K mg base N qual (aX st) f a A outer s H E).nox) (pm++d) P R (di st) b):
  rJ Pr w K mg base c ps (k+1) (vSp K mg pm R (bV N.length b)):=by
 obtain⟨C,f,fd,h1,h2,h4⟩:=B;exact⟨C,f,fd,h1,h2,h4.binds r,Ga h4 S pm d u j g q n (body f)⟩
end
section
variable {X:Cx}{md:List Md}{P:Pt}{R:RR}{k:Nat}{c m:Str}{ps:List Str}{p pos apos:Pos}{o e:Expr}{es:List Expr}{pm:List Md}{cf:List D->aq->Res D}{mo:M D}{ma:M (List D)}
def bO(c m:Str)(cf:List D->aq->Res D)(mo:M D)(ma:M (List D)):M D:=λρ O=>(mo ρ O).bind λd a=>match d with
 | .ob n=>match a[n]? with
  |some (.ins c' fs)=>if c'=c/\(fs.lookup m).isNone=true then(ma ρ a).bind λf g=>cf (.ob n::f) g else .no
  | _=>.no
 | _=>.no
theorem Gb{K:Frag}{mg:Str->Option Value}{C:Addr}(hR:fj R)(hC:mg c=some (.ref C)){E:XK}{σ:St}{H:Hp}{Q:VK}(q:tM K mg md P R (bO c m cf mo ma) σ H Q):
  vo C m (vSp K mg (.v::pm) R cf) [] E (tM K mg md P (rV K) mo) (tMA K mg md P pm ma) σ H Q:=by
 obtain⟨ρ,O,F,as,d,O',r,s,e,k⟩:=q;obtain⟨x,T,e1,e⟩:=Res.bind_ok e
 cases x with
 |ob n =>
  dsimp only at e;split at e
  ·rename_i c' fs eo;split at e
   ·rename_i I;obtain⟨J,L,e2,e⟩:=Res.bind_ok e;refine⟨ρ,O,F,as,.ob n,T,r,s,e1,λv H1 F1 u g B G=>?_⟩;obtain⟨a,rfl,ha⟩:=Rp.unO G;obtain⟨C',dx,gs,h1,h2,h3⟩:=B.ob n a _ ha eo;rw[I.1,hC] at h1;cases h1;refine⟨a,dx,gs,rfl,h2,h3.no (Option.isNone_iff_eq_none.mp I.2),?_⟩;refine⟨ρ,T,F1,u,J,L,B,s.step g,e2,λvs H2 F2 l f W j=>?_⟩;dsimp only;rw[zX];exact⟨.ob n::J,L,F2,l,d,O',W,⟨Rp.gr G f,j⟩,e,λU H' F' y g' Y Z=>k U H' F' y ((g.trans f).trans g') Y (hR _ _ _ _ _ _ _ (λb hb=>(g.trans f).dm b hb) Z)⟩
   ·cases e
  ·cases e
 | _=>cases e
theorem Gd{pl:Sem Bool}(r:fj R)(M:fQ X.prog X.w X.K X.mg X.base c m ps k (vSp X.K X.mg (.v::pm) R cf))(j:bj k X.A)(l:VE X md P o mo)(n:AE X md P pm (e::es) ma)
  (a:starEach (e::es) X.env=(false,eval e X.env)::starEach es X.env:=by exact dH rfl) (d:(backTo pos (starEach es X.env)).any (·.1)=false:=by exact eH rfl)
  (g:eval (.Call (.Attribute o m apos) (e::es) [] pos) X.env=(do
   let ov <-eval o X.env
   standAt apos.atName
   let (f,first) <-holding [ov] (getMethod ov m pl)
   callWith pos f first (backTo pos (starEach (e::es) X.env)) (backToKw pos (keywordEach [] X.env))):=by rfl):
  PE X (.Call (.Attribute o m apos) (e::es) [] pos) (tM X.K X.mg md P R (bO c m cf mo ma)):=by
 obtain⟨C,f,fd,h1,h2,h3,h4,u⟩:=M
 exact(Qs (pl:=pl) (E:=E0) (ds:=[]) (dvs:=[]) l h2 h3 u j h4 .nil oM n a d g).imp λ_ _ _ q=>Gb r h1 q
theorem T7{pl:Sem Bool}(L:fj R)(M:fQ X.prog X.w X.K X.mg X.base c m ps k (vSp X.K X.mg [.v] R cf))(I:bj k X.A)(J:VE X md P o mo)
  (G:eval (.Call (.Attribute o m apos) [] [] pos) X.env=(do
   let ov <-eval o X.env
   standAt apos.atName
   let (f,first) <-holding [ov] (getMethod ov m pl)
   callWith pos f first (backTo pos (starEach [] X.env)) (backToKw pos (keywordEach [] X.env))):=by rfl):
  PE X (.Call (.Attribute o m apos) [] [] pos) (tM X.K X.mg md P R (bO c m cf mo au)):=by
 obtain⟨C,f,fd,h1,h2,h3,h4,T⟩:=M
 refine(Qt (pl:=pl) (E:=E0) (ds:=[]) (dvs:=[]) J h2 h3 T I h4 .nil oM G).imp λσ H Q q=>?_
 obtain⟨ρ,O,F,as,d,O',r,s,e,k⟩:=Gb (pm:=[]) (E:=E0) L h1 q;refine⟨ρ,O,F,as,d,O',r,s,e,λv n F' l g x B=>?_⟩;obtain⟨a,dx,fs,Z,Y,W,t⟩:=k v n F' l g x B;refine⟨a,dx,fs,Z,Y,W,?_⟩;obtain⟨ρ1,O1,F1,j,ds1,O2,u,s1,U,y⟩:=t;cases U;exact y [] n F1 j Gr.refl u trivial
def lL(c:Str)(cf:List D->aq->Res D)(ma:M (List D)):M D:=λρ O=>(ma ρ O).bind λd a=>match cf (.ob a.length::d) (a++[.ins c []]) with
 | .ok .non O2=>.ok (.ob a.length) O2
 | .ok _ _=>.no
 | .ex x O2=>.ex x O2
 | .no=>.no
theorem T8{K:Frag}{mg:Str->Option Value}{C:Addr}(hC:mg c=some (.ref C)){E:XK}{σ:St}{H:Hp}{Q:VK}(q:tM K mg md P (rV K) (lL c cf ma) σ H Q):
  Dl C (vSp K mg (.v::pm) (rV K) cf) [] E (tMA K mg md P pm ma) σ H Q:=by
 obtain⟨ρ,O,F,as,d,O',r,s,e,k⟩:=q;obtain⟨ds,G,e1,e⟩:=Res.bind_ok e;split at e
 ·rename_i O2 ec;cases e;refine⟨ρ,O,F,as,ds,G,r,s,e1,λvs y l f g1 B Y=>?_⟩;intro x g U T Z;rw[zX]
  have J:upd y g (.own x) x=none:=by rw[aL Z.symm];exact U
  have gA:Gr y l f (upd y g (.own x)) l f:=Gr.lay T;have gB:Gr (upd y g (.own x)) l f (upd (upd y g (.own x)) x (.ins C g [])) l f:=Gr.lay J;have gC:Gr (upd (upd y g (.own x)) x (.ins C g [])) l f (upd (upd y g (.own x)) x (.ins C g [])) l f:=Gr.refl;have u:=gA.trans gB;have g2:Gr y l f (upd (upd y g (.own x)) x (.ins C g [])) l (f++[x]):=⟨u.fz,u.ff,⟨[x],rfl,λa j=>by rw[zw.mp j];exact U⟩,λa o e j hd=>u.fr a o e j hd,u.dm,u.kz⟩
  have nx:x∉f:=λz=>B.all z U
  have W:=(B.lay (o:=.own x) T).lay (o:=.ins C g []) J
  have at_:∀(n:Nat) (a:Addr),f[n]?=some a->(f++[x])[n]?=some a:=λn a h=>by
   rw[zB (zr.mp h).1];exact h
  have r2:RlO K mg (G++[.ins c []]) (upd (upd y g (.own x)) x (.ins C g [])) l (f++[x]):=by
   refine⟨W.fh,W.fd,?_,by simp[B.len],λa j=>?_,λn a o j I=>?_⟩
   ·rw[jg];refine⟨B.nd,by simp,λa j b hb=>?_⟩;rw[zw.mp hb];intro z;subst z;exact nx j
   ·rcases zC.mp j with z | z
    ·exact B.fa a z
    ·rw[zw.mp z];exact B.frF U
   ·by_cases hn:n<G.length
    ·rw[zB (by rw[B.len];exact hn)] at j;rw[zB hn] at I;exact(W.ob n a o j I).keep rfl (Same.refl _) at_
    ·have hn':n=G.length:=by
      have:=(zr.mp I).1
      simp at this
      omega
     subst hn';rw[zH (zc _),Nat.sub_self] at I;rw[<-B.len,zH (zc _),Nat.sub_self] at j;cases I;cases j;exact⟨C,g,[],hC,bI,⟨rfl,Rps.nil⟩⟩
  have L:Rp K l (f++[x]) (.ref x) (.ob G.length):=Rp.mkO (by rw[<-B.len,zH (zc _),Nat.sub_self];rfl);refine⟨.ob G.length::ds,_,l,f++[x],.non,_,r2,⟨L,Y.gr g2⟩,ec,λv H3 F3 as3 g3 r3 hv=>?_⟩;exact⟨Rp.unN hv,k _ H3 F3 as3 ((g1.trans g2).trans g3) r3 (Rp.gr L g3)⟩
 ·cases e
 ·cases e
 ·cases e
theorem T9(M:rJ X.prog X.w X.K X.mg X.base c ps k (vSp X.K X.mg (.v::pm) (rV X.K) cf))(g:bj (k+1) X.A)(n:AE X md P pm (e::es) ma)(j:Gl X c:=by rfl)(d:(c == ("__debug__":Str))=false:=by decide)
  (l:starEach (e::es) X.env=(false,eval e X.env)::starEach es X.env:=by exact dH rfl) (a:(backTo pos (starEach es X.env)).any (·.1)=false:=by exact eH rfl):VE X md P (.Call (.Name c p) (e::es) [] pos) (lL c cf ma):=by
 obtain⟨C,f,fd,h1,h3,h4,r⟩:=M
 exact(Qv (E:=E0) (ds:=[]) (dvs:=[]) h3 r g j h1 h4 .nil oM n d l a).imp λ_ _ _ q=>T8 h1 q
end
section
variable {X:Cx}{md:List Md}{P:Pt}{R:RR}
def mX:D->Option (List D)
 | .lst ds=>some ds
 | .tup ds=>some ds
 | .str l=>if ascii l=true then some (jY l) else none
 | _=>none
def cJ(m:M D):M (List D):=λρ O=>(m ρ O).bind λd c=>match mX d with
 |some a=>.ok a c
 |none=>.no
theorem Ge{e:Expr}{m:M D}(h:WE X md P e m):SE X md P e m:=h.imp λσ H Q q=>by
 obtain⟨ρ,O,F,E,d,G,r,s,e,k⟩:=q;refine⟨ρ,O,F,E,d,G,r,s,e,λv I J f g l c=>k v I J f g l ?_⟩
 rcases c with c | ⟨a,j,C,B,y,x,u,L,n⟩
 ·exact .inl c
 ·exact .inr ⟨a,j,C,B,y,x,u,n⟩
theorem pC{j e:Expr}{m:M D}(h:WE X md P e m):VI X md P j e (cJ m):=λpins s σ H Q I q=>by
 obtain⟨ρ,O,F,f,u,y,r,sl,e,k⟩:=q;obtain⟨d,x,c,e⟩:=Res.bind_ok e
 cases d with
 |lst g =>
  cases e;exact TQ h pins s σ H Q I ⟨ρ,O,F,f,_,_,r,sl,by unfold rH;rw[c];rfl,k⟩
 |tup g =>
  cases e;exact FT (dw (Ge h)) pins s σ H Q I ⟨ρ,O,F,f,_,_,r,sl,by unfold v7 mG;rw[c];rfl,k⟩
 |str l =>
  simp only[mX] at e;split at e
  ·rename_i g a;split at a
   ·rename_i n;cases a;cases e;refine FW (Ge h) pins s σ H Q I ⟨ρ,O,F,f,jY l,_,r,sl,?_,k⟩;unfold v9;rw[c];show(if ascii l=true then _ else _)=_;rw[if_pos n]
   ·cases a
  ·cases e
 | _=>cases e
theorem Ua{I e:Expr}{m:M D}(h:SE X md P e m):VIc X md P I e (rH m):=(CP h).imp λσ H Q q=>by
 obtain⟨ρ,O,F,Y,ds,O',r,s,e,k⟩:=q;obtain⟨d,O1,W,e⟩:=Res.bind_ok e
 cases d with
 |lst es =>
  cases e;refine⟨ρ,_,F,Y,_,_,r,s,W,λv E u n J G C=>?_⟩
  obtain⟨a,f,rfl,h1,h2⟩:∃a f,v=.ref a/\Rps X.K u n f ds/\∀(j l:Hp) (c:List Addr),Gr E u n j l c->(∃O,RlO X.K X.mg O j l c)->RdK X.K j a f:=by
   rcases C with C | ⟨a,f,Z,rfl,e,U,T,L⟩
   ·obtain⟨a,f,rfl,h1,h2⟩:=C.unL;exact⟨a,f,rfl,h2,λj l c g ⟨O,r⟩=>(h1.mono g.ff).mono r.fh⟩
   ·cases e;exact⟨a,f,rfl,L,λj l c g _=>.inl (.inl (g.fr _ _ U T rfl))⟩
  refine⟨a,rfl,⟨f,(h2 E u n Gr.refl ⟨_,G⟩).sq⟩,k _ E u n J G ⟨λi d j l c g r e=>?_,λj l c g r=>⟨f,(h2 j l c g r).sq,by rw[h1.length];exact zc _⟩⟩⟩;obtain⟨x,h3,h4⟩:=h1.get' e;have q:=h2 j l c g r;refine⟨⟨f,x,q.sq,h3⟩,λy H3 B=>?_⟩;obtain⟨rfl,B⟩:=B
  have:=B f q.sq
  rw[h3] at this;cases this;exact⟨l,Gr.refl,λ_ r=>r,h4.gr g⟩
 | _=>cases e
theorem lM{j e:Expr}{m:M D}(h:SE X md P e m):VIc X md P j e (cJ m):=λpins s σ H Q I q=>by
 obtain⟨ρ,O,F,f,u,y,r,sl,e,k⟩:=q;obtain⟨d,x,c,e⟩:=Res.bind_ok e
 cases d with
 |lst g =>
  cases e;exact Ua h pins s σ H Q I ⟨ρ,O,F,f,_,_,r,sl,by unfold rH;rw[c];rfl,k⟩
 |tup g =>
  cases e;exact vU (FT (dw h)) pins s σ H Q I ⟨ρ,O,F,f,_,_,r,sl,by unfold v7 mG;rw[c];rfl,k⟩
 |str l =>
  simp only[mX] at e;split at e
  ·rename_i g a;split at a
   ·rename_i n;cases a;cases e;refine vU (FW h) pins s σ H Q I ⟨ρ,O,F,f,jY l,_,r,sl,?_,k⟩;unfold v9;rw[c];show(if ascii l=true then _ else _)=_;rw[if_pos n]
   ·cases a
  ·cases e
 | _=>cases e
def Ub(m:M D):M (List D):=λρ O=>(m ρ O).bind λd a=>match d with
 | .lst ds=>.ok (ph 0 ds) a
 | .str l=>if ascii l=true then .ok (ph 0 (jY l)) a else .no
 | _=>.no
variable {elts:List Expr}{x1:Nat}{tpos:Pos}
def Pt.with(P:Pt)(a:Addr)(i:Nat)(d:D)(l:List (Nat×V×D)):Pt:=⟨λc=>P c\/c=a,(i,.ref a,d)::(l++P.ss)⟩
end
theorem Uc{P:Program}{w:World}{K:PySem.W.Frag}{mg mb:Str->Option Value}{CX:CXT}{k:Nat}{fa a:Addr}{fd:FuncData}{x:Str}{sp:Sp}{c:Shared}{vs:List Value}{ns:List Int}
  (KX:K.In c.heap) (E:c.heap.Ns mainGlobals mg) (g:c.heap.Ns builtinsNs mb) (T:∀x:Str,x≠"__name__"->mb x=bootBuiltins x) (L:c.heap.NoLimit) (hg:c.gens = #[])
  (O:c.heap.get? a=some {cls:=.type "list",data:=.seq vs.toArray}) (Y:IntsAre vs ns) (X:ns.length<=sizeLine) (hr:bj k callerA)
  (F:∀base:Heap,K.In base->base.Ns mainGlobals mg->cj P w K mg base CX k fa fd [x] sp) (y:∀(s:Shared) (u:Value),BindsTo s fd ⟨[u],[]⟩ [(x,u)])
  (R:∀H:Hp,lq H->RdK K H a (ns.map V.int)->sp [.ref a] H (λv _=>v=.bl true) λ_ _ _=>False)
  (U:∀H e j,CX [] H c (λ_ _ _=>False) e j->False):
  codeAny (model P w) callerA (.call (.ref fa) ⟨[.ref a],[]⟩) (λr j=>r=.ok (.ret (.bool true))/\OldK c.heap j.heap/\j.os=c.os/\AllBare j.gens) c:=by
 have rv:=vG Y;have I:=Y.length;have core:∀H:Hp,lq H->RdK K H a (ns.map V.int)->HOk P w H c.heap->(∀b,H b≠none->b=a)->(H a≠none->K.lookup a=none) ->
   codeAny (model P w) callerA (.call (.ref fa) ⟨[.ref a],[]⟩) (λr j=>r=.ok (.ret (.bool true))/\OldK c.heap j.heap/\j.os=c.os/\AllBare j.gens) c:=by
  intro H Z hS hok hA hK
  have f:∀{b:Addr}{o:Obj},c.heap.get? b=some o->H b=none->(eZ c.heap H).get? b=some o:=λe n=>Ck e n
  have Q:∀{b:Addr}{o:Obj}{B:Array DictEntry}{C:Nat},c.heap.get? b=some o->o.data=.dict B C->H b=none:=λ{b o B C} e d=>by
   cases q:H b with
   |none=>rfl
   |some u =>
    have e':b=a:=hA b (by rw[q];simp);subst e';rw[O] at e;cases e;have d':Data.seq vs.toArray _=Data.dict B C:=d;cases d'
  have l:∀{b:Addr}{m:Str->Option Value},c.heap.Ns b m->(eZ c.heap H).Ns b m:=λ{b m} ⟨o,B,C,e,d,r⟩=>⟨o,B,C,f e (Q e d),d,r⟩
  have G:K.In (eZ c.heap H):=λb o e=>f (KX b o e) (by
   cases q:H b with
   |none=>rfl
   |some u =>
    have e':b=a:=hA b (by rw[q];simp);subst e'
    rw[hK (by rw[q];simp)] at e;cases e)
  have hM:Mod K mg (eZ c.heap H):=⟨G,l E,⟨mb,l g,T⟩,let ⟨mc,h1,h2⟩:=L;⟨mc,l h1,h2⟩⟩;have e0:fK P w K mg (eZ c.heap H) callerA [] c H:=⟨rfl,hM,λb o e=>Cm e,Nat.le_of_eq (Cj _ _),trivial,λb g=>absurd (show b∈([]:List Addr) from g) (by simp),hok,.of_eq hg⟩
  refine codeAny_mono ((F _ G (l E)).run callerA [] c H ⟨[.ref a],[]⟩ [.ref a] [.ref a] _ _ hr e0 (y c (.ref a)) (.cons rfl .nil) (R H Z hS)) λr j h=>?_
  cases r with
  |error e=>exact(U H e j h).elim
  |ok fl =>
   cases fl with
   |next=>exact False.elim h
   |brk=>exact False.elim h
   |cont=>exact False.elim h
   |ret u =>
    obtain⟨v,H',os,bare,un,J,r',q⟩:=h;have q':v=.bl true:=q;subst q';obtain rfl:u=Value.bool true:=r';refine⟨rfl,OldK.of_keep λb o e=>?_,os,bare⟩
    cases q:H b with
    |none=>exact un.keep b o e q (by intro z;exact absurd (show b∈([]:List Addr) from z) (by simp)) (by simp)
    |some u =>
     rcases Z b with z | ⟨ob,xs,z⟩
     ·rw[q] at z;cases z
     ·have z2:=un.frzs b ob _ z;obtain⟨e1,_⟩:=hok b _ z;obtain⟨e2,_⟩:=J b _ z2;rw[e] at e1;cases e1;exact e2
 cases hk:K.lookup a with
 |some o =>
  have e:=KX a o hk;rw[O] at e;cases e
  refine core (λ_=>none) (λ_=>.inl rfl) (.inr ⟨vs,_,hk,by rw[I];exact X,rv⟩) (λb u z=>by have z':(none:Option HO)=some u:=z;cases z') (λb z=>absurd rfl z) λz=>absurd rfl z
 |none =>
  refine core (λb=>if b=a then some (.frz {cls:=.type "list",data:=.seq vs.toArray} (.lst (ns.map V.int))) else none) (λb=>?_) (.inl (.inr ⟨{cls:=.type "list",data:=.seq vs.toArray},if_pos rfl⟩)) (λb u z=>?_) (λb z=>?_) λ_=>hk
  ·by_cases g:b=a
   ·exact .inr ⟨_,_,if_pos g⟩
   ·exact .inl (if_neg g)
  ·by_cases g:b=a
   ·have z':=(if_pos g).symm.trans z;cases z';subst g;exact⟨O,by rw[zf];exact X,vs,_,rv,O⟩
   ·have z':=(if_neg g).symm.trans z;cases z'
  ·by_cases g:b=a
   ·exact g
   ·exact absurd (if_neg g) z
theorem walk_ofR{l:PySem.W.OpenLaw}{n k:Nat}{q:Program}{loose:List Str}{XP:(Str->Option Value)->Heap->Prop}{YP:World->Heap->Prop}{d:DefRec}{K:Params->PySem.W.Frag}{CX:World->CXT}{sp:World->Sp}{x:Str}
  (hn:l.most=some n) (hn2:n<=sizeLine) (hdf:d.params.defaults=[]) (hr:bj k callerA)
  (hY:∀(w:World) (h:Heap),YP w h->(K w.params).In h)
  (F:∀(w:World) (mg:Str->Option Value) (fa:Addr) (h:Heap),(K w.params).In h->h.Ns mainGlobals mg->mg d.name=some (.ref fa) ->
   ∃fd:FuncData,(∀(s:Shared) (u:Value),BindsTo s fd ⟨[u],[]⟩ [(x,u)]) /\
    ∀base:Heap,(K w.params).In base->base.Ns mainGlobals mg->cj l.prog w (K w.params) mg base (CX w) k fa fd [x] (sp w))
  (hsp:∀(w:World) (H:Hp) (a:Addr) (ns:List Int),ns.length<=n->lq H->RdK (K w.params) H a (ns.map V.int)->sp w [.ref a] H (λv _=>v=.bl true) λ_ _ _=>False)
  (hCX:∀(w:World) (H:Hp) (s:Shared) (e:Value) (s':Shared),CX w [] H s (λ_ _ _=>False) e s'->False):
  PySem.W.WalkO q loose XP YP l.row.toRowW d [] (λf vs=>PySem.call f vs):=by
 refine Att.attach_call hn hdf λw s₀ s₁ mg mb fa o pm cd doc a vs ns G Y ho hd hcd hmg hobj hints hlen hg=>?_
 have KX:=hY w _ Y;obtain⟨fd,hb,hF⟩:=F w mg fa _ KX G.T.g hmg
 exact Uc KX G.T.g G.T.b G.T.builtins G.T.nolimit hg hobj hints (zG hlen hn2) hr hF hb (λH hO hS=>hsp w H a ns hlen hO hS) λH e s'=>hCX w H s₁ e s'
theorem lN{K:Frag}{mg:Str->Option Value}{f:Str}:∀c∈([]:List Str),KC K mg c f:=λ_ h=>nomatch h
theorem lO{K:Frag}{mg:Str->Option Value}{f c:Str}{cs:List Str}(h:KC K mg c f)(g:∀c∈cs,KC K mg c f):∀d∈c::cs,KC K mg d f:=λd a=>by
 rcases zp.mp a with rfl | a
 ·exact h
 ·exact g d a
def wF:Nat:=1000000
def sp_law(K:Frag):Sp:=λvs H Q _=>∃(a:Addr) (ns:List Int),vs=[.ref a]/\RdK K H a (ns.map V.int)/\ns.length<=63/\lq H/\∀c,Q (.bl true) c
theorem Rps.ofInts{K:Frag}{F:Hp}{a:List Addr}:∀ns:List Int,Rps K F a (ns.map V.int) (ns.map D.int)
 | []=>Rps.nil
 |n::ns=>Rps.cons Rp.int (Rps.ofInts ns)
theorem Ud{K:Frag}{mg:Str->Option Value}{c:List D->aq->Res D}(h:∀ns:List Int,ns.length<=63->∃d,c [.lst (ns.map D.int)] []=.ok (.bl true) d):∀vs H Q E,sp_law K vs H Q E->vSp K mg [.s] (rV K) c vs H Q E:=by
 rintro vs H Q E ⟨a,ns,rfl,hS,hl,hO,q⟩;obtain⟨d,e⟩:=h ns hl
 have r:RlO K mg [] H H []:=⟨Same.refl H,λb o e=>by
  rcases hO b with z | ⟨x,m,z⟩
  ·rw[e] at z;cases z
  ·rw[e] at z;cases z;rfl,List.nodup_nil,rfl,(λ_ z=>nomatch z),λn b o z=>by cases z⟩
 refine⟨[.lst (ns.map D.int)],[],H,[],.bl true,d,r,⟨.inl (Rp.mkL hS (Rps.ofInts ns)),trivial⟩,e,λv j y l g u f=>?_⟩;rw[Rp.unB f];exact q j
def keyOf:D->Option Key
 | .int i=>some (.inl i)
 | .str l=>some (.inr (S l))
 | _=>none
theorem Ue{d:D}{k:Key}(h:keyOf d=some k):jt k=d:=by
 cases d with
 |int i=>cases h;rfl
 |str l=>cases h;show D.str (S l).cps.toList=_;rw[lz]
 | _=>cases h
theorem Rp.key{K:Frag}{F:Hp}{a:List Addr}{v:V}{d:D}{k:Key}(h:Rp K F a v d)(e:keyOf d=some k):v=kV k:=by
 cases d with
 |int i=>cases e;exact h.unI
 |str l=>cases e;exact h.unS
 | _=>cases e
theorem Ug(k:Key):keyOf (jt k)=some k:=by
 cases k with
 |inl i=>rfl
 |inr x=>show some (Sum.inr (S x.cps.toList))=_;rw[RN]
def jZ:List D->List D->Key->Option D
 |k::ks,v::vs,x=>if keyOf k=some x then some v else jZ ks vs x
 | _,_,_=>none
theorem Gf{K:Frag}{F:Hp}{c:List Addr}:∀{kvs:List (Key×V)}{vs:List D} (x:Key),Rps K F c (kvs.map (·.2)) vs ->
  (jZ (kvs.map λp=>jt p.1) vs x=none/\cI kvs x=none)\/∃d v,jZ (kvs.map λp=>jt p.1) vs x=some d/\cI kvs x=some v/\Rp K F c v d
 | [],vs,x,h=>.inl ⟨by cases vs<;>rfl,rfl⟩
 | (k,v)::kvs,vs,x,h=>by
  cases vs with
  |nil=>have:=h.un0;cases this
  |cons d ds =>
   obtain⟨y,r,e,h1,h2⟩:=h.un;simp only[zd,List.cons.injEq] at e;obtain⟨rfl,rfl⟩:=e;rw[zd,jZ,Ug]
   by_cases a:k=x
   ·subst a;exact .inr ⟨d,v,by rw[if_pos rfl],by simp[cI],h1⟩
   ·rw[if_neg (λz=>a (zz z))]
    have f:cI ((k,v)::kvs) x=cI kvs x:=by
     unfold cI;rw[List.find?_cons_of_neg (by simpa using a)]
    rw[f];exact Gf x h2
section
variable {X:Cx}{md:List Md}{P:Pt}
def Prs(K:Frag)(F:Hp)(a:List Addr):List (V×V)->List (D×D)->Prop
 | [],[]=>True
 |p::ps,d::ds=>Rp K F a p.1 d.1/\Rp K F a p.2 d.2/\Prs K F a ps ds
 | _,_=>False
def DPE(X:Cx)(md:List Md)(P:Pt)(j:Pos)(keys:List (Option Expr))(values:List Expr)(m:M (List (D×D))):Prop:=∃c:List (TE×TE),
 PPs X j keys values c/\∀σ H Q,(∃ρ O F d kv n,RlO X.K X.mg O H F d/\SlO X.K md P ρ σ H F d/\m ρ O=.ok kv n/\∀l f g a,Gr H F d f g a->RlO X.K X.mg n f g a->Prs X.K g a l kv->Q l f)->qW c σ H Q
def pF:M (List (D×D)):=λ_ O=>.ok [] O
def j0(f d:M D)(r:M (List (D×D))):M (List (D×D)):=λρ O=>(f ρ O).bind λa l=>(d ρ l).bind λb j=>(r ρ j).bind λc g=>.ok ((a,b)::c) g
theorem Uh{a:Pos}:DPE X md P a [] [] pF:=⟨[],Rm,λσ H Q q=>by
 obtain⟨ρ,O,F,c,kv,d,r,s,e,k⟩:=q;cases e
 exact k [] H F c Gr.refl r trivial⟩
theorem Gg{c:Pos}{E v:Expr}{ks:List (Option Expr)}{vs:List Expr}{j g:M D}{m:M (List (D×D))}(Y:VE X md P E j)(hv:VE X md P v g)(f:DPE X md P c ks vs m):
  DPE X md P c (some E::ks) (v::vs) (j0 j g m):=by
 obtain⟨n,f⟩:=f
 exact⟨(tM X.K X.mg md P (rV X.K) j,tM X.K X.mg md P (rV X.K) g)::n,Rn Y hv f.1,λσ H Q q=>by
 obtain⟨ρ,O,F,as,kv,O',r,s,e,k⟩:=q;obtain⟨a,O1,e1,e⟩:=Res.bind_ok e;obtain⟨b,O2,e2,e⟩:=Res.bind_ok e;obtain⟨ps,O3,Z,e⟩:=Res.bind_ok e;cases e;refine⟨ρ,_,F,as,_,_,r,s,e1,λx H1 F1 C I R U=>?_⟩;refine⟨ρ,_,F1,C,_,_,R,s.step I,e2,λy H2 F2 B G L T=>?_⟩;have d:=I.trans G;refine f.2 σ H2 _ ⟨ρ,_,F2,B,_,_,L,s.step d,Z,λqs H3 F3 u l J W=>?_⟩
 exact k _ H3 F3 u (d.trans l) J ⟨(Rp.gr U G).gr l,Rp.gr T l,W⟩⟩
def keysOf:List (D×D)->Option (List Key)
 | []=>some []
 | (a,_)::r=>(keyOf a).bind λk=>(keysOf r).map (k :: ·)
theorem Prs.kvs{K:Frag}{F:Hp}{c:List Addr}:∀{kv:List (D×D)}{ps:List (V×V)}{ks:List Key},Prs K F c ps kv->keysOf kv=some ks ->
  ∃kvs:List (Key×V),ps=kvs.map (λp=>(kV p.1,p.2))/\kvs.map (·.1)=ks/\kv.map (·.1)=kvs.map (λp=>jt p.1)/\Rps K F c (kvs.map (·.2)) (kv.map (·.2))
 | [],ps,ks,h,e=>by
  cases ps with
  |nil=>cases e;exact⟨[],rfl,rfl,rfl,Rps.nil⟩
  |cons _ _=>exact h.elim
 | (a,b)::kv,ps,ks,h,e=>by
  cases ps with
  |nil=>exact h.elim
  |cons p ps =>
   obtain⟨f,d⟩:=p;unfold keysOf at e
   cases ea:keyOf a with
   |none=>rw[ea] at e;cases e
   |some k =>
    rw[ea] at e
    cases er:keysOf kv with
    |none=>rw[er] at e;cases e
    |some ks' =>
     rw[er] at e;cases e;obtain⟨kvs,h1,h2,h3,h4⟩:=Prs.kvs h.2.2 er;refine⟨(k,d)::kvs,?_,?_,?_,Rps.cons h.2.1 h4⟩
     ·rw[zd,<-h1]
      have:f=kV k:=Rp.key h.1 ea
      rw[this]
     ·rw[zd,h2]
     ·rw[zd,zd,h3,Ue ea]
theorem Gh:∀(more acc:List (Key×V)),((acc++more).map (·.1)).Nodup->jO acc more=acc++more
 | [],acc,_=>by simp[jO]
 | (k,v)::r,acc,h=>by
  have a:cI acc k=none:=by
   cases q:cI acc k with
   |none=>rfl
   |some w =>
    exfalso
    unfold cI at q
    cases f:acc.find? λkv=>decide (kv.1=k) with
    |none=>rw[f] at q;cases q
    |some z =>
     have h1:=List.find?_some f;have h2:=List.mem_of_find?_eq_some f;rw[zI,jg] at h;exact h.2.2 z.1 (List.mem_map_of_mem h2) k (by simp) (zU h1)
  show jO (putK acc k v) r=_;rw[Rg _ a,Gh r _ (by rw[zE];exact h),zE];rfl
def pG(m:M (List (D×D))):M D:=λρ O=>(m ρ O).bind λkv c=>match keysOf kv with
 |some a=>if a.Nodup/\kv.length<=15 then .ok (.dic (kv.map (·.1)) (kv.map (·.2))) c else .no
 |none=>.no
theorem Prs.length{K:Frag}{F:Hp}{a:List Addr}:∀{kv:List (D×D)}{ps:List (V×V)},Prs K F a ps kv->ps.length=kv.length
 | [],[],_=>rfl
 | _::kv,_::ps,h=>by simp[Prs.length h.2.2]
 | [],_::_,h=>h.elim
 | _::_,[],h=>h.elim
theorem Ui{y:Pos}{keys:List (Option Expr)}{values:List Expr}{m:M (List (D×D))}(h:DPE X md P y keys values m)(B:keys.all (·.isSome)=true:=by rfl)(hl:keys.length=values.length:=by rfl)(h0:keys≠[]:=by exact λz=>nomatch z)(I:keys.length<=15:=by decide):
  VE X md P (.Dict keys values y) (pG m):=by
 obtain⟨trs,h⟩:=h
 refine(Rq h.1 B hl h0 I).imp λσ H Q q=>?_
 obtain⟨ρ,O,F,x,d,O',r,s,e,k⟩:=q;obtain⟨kv,O1,e1,e⟩:=Res.bind_ok e;split at e
 ·rename_i ks ek;split at e
  ·rename_i hz;cases e;intro p f;have T:Gr H F x (upd H p (.dK [])) F x:=Gr.lay f;refine h.2 σ _ _ ⟨ρ,_,F,x,kv,_,r.lay f,s.step T,e1,λps G n c E W L=>?_⟩
   have l:p∉x:=λz=>r.all z f
   have h2:G p=some (.dK []):=E.fr _ _ bI l rfl;obtain⟨kvs,J,q2,Z,Y⟩:=L.kvs ek
   have hlen:kvs.length<=15:=by
    have:=L.length
    rw[J,zf] at this;omega
   refine⟨h2,kvs,J,hlen,?_⟩;rw[Gh kvs [] (by rw[zK,q2];exact hz.1),zK]
   have hn:upd H p (.dK []) p≠none:=by rw[bI];exact λz=>nomatch z
   have C:n p=none:=by rw[E.fz p _ bI l rfl];exact r.frF f
   have j:p∉c:=E.out l hn
   have ff:Same n (upd n p (.dK kvs)):=λb u q=>by rw[aL (cz q C)];exact q
   have g3:Gr H F x (upd G p (.dK kvs)) n c:=by
    have g:=T.trans E
    exact⟨g.fz,g.ff,g.nw,λa o e ha hd=>by rw[aL (cz e f)];exact g.fr a o e ha hd,λa e=>by
     by_cases R:a=p
     ·subst R;exact f
     ·rw[aL R] at e;exact g.dm a e,λa o u e=>by rw[aL (cz e f)];exact g.kz a o u e⟩
   have U:RlO X.K X.mg _ (upd G p (.dK kvs)) n c:=W.mut C j;refine k _ _ (upd n p (.dK kvs)) c (g3.frz f C) (U.frz bI C j rfl) ?_;show Rp X.K _ _ _ _;rw[Rp];exact⟨p,kvs,rfl,bI,Z,Rps.mono ff (λ_ _ z=>z) _ Y⟩
  ·cases e
 ·cases e
def rK(d c a:M D):M D:=λρ O=>(d ρ O).bind λx j=>(c ρ j).bind λy g=>(a ρ g).bind λz f=>match x,keyOf y with
 | .dic ks vs,some k=>.ok ((jZ ks vs k).getD z) f
 | _,_=>.no
theorem Uj{k:Nat}(hr:bj k X.A){o e f:Expr}{apos c:Pos}{W U T:M D}(ho:VE X md P o W)(he:VE X md P e U)(hf:VE X md P f T)(m:M2 X o "get" apos e f c:=by exact⟨rfl,rfl,rfl,rfl⟩):VE X md P (.Call (.Attribute o "get" apos) [e,f] [] c) (rK W U T):=
 (Rv (Rf hr) ho he hf m).imp λσ H Q q=>by
  obtain⟨ρ,O,F,as,d,O',r,s,e,k⟩:=q;obtain⟨x,O1,e1,e⟩:=Res.bind_ok e;obtain⟨y,O2,e2,e⟩:=Res.bind_ok e;obtain⟨z,O3,e3,e⟩:=Res.bind_ok e;split at e
  ·rename_i _ G ek _ _;cases e;refine⟨ρ,_,F,as,_,_,r,s,e1,λv H1 F1 L g1 R hv=>?_⟩;obtain⟨a,kvs,rfl,h1,rfl,h2⟩:=Rp.unD hv;refine⟨a,rfl,.inl ⟨kvs,.inl (R.fh _ _ h1)⟩,ρ,_,F1,L,_,_,R,s.step g1,e2,λu H2 F2 J g2 r2 Y=>?_⟩;have l:=g1.trans g2;refine⟨ρ,_,F2,J,_,_,r2,s.step l,e3,λw I F3 n g3 E hw=>?_⟩;have j:=l.trans g3;have Z:=g2.trans g3;have g:I a=some (.dK kvs):=E.fh _ _ (Z.ff _ _ h1)
   rcases Gf G h2 with⟨C,B⟩ | ⟨d',v',C,B,z3⟩
   ·refine⟨none,.inl ⟨kvs,G,.inl g,Rp.key Y ek,B.symm⟩,?_⟩;rw[C] at k;exact k _ I F3 n j E hw
   ·refine⟨some v',.inl ⟨kvs,G,.inl g,Rp.key Y ek,B.symm⟩,?_⟩;rw[C] at k;exact k _ I F3 n j E (z3.gr Z)
  ·cases e
end
section
variable {X:Cx}{md:List Md}{P:Pt}{k:Nat}{c x m:Str}{ps:List Str}{p pos apos:Pos}{o e:Expr}{es:List Expr}{pm:List Md}{cf:List D->aq->Res D}{mo:M D}{ma:M (List D)}
theorem bL(C:Can X.prog X.w X.K X.mg X.base x ps k (vSp X.K X.mg pm (rV X.K) cf))(f:bj k X.A)(l:AE X md P pm (e::es) ma)(g:Gl X x:=by rfl)(d:(x == ("__debug__":Str))=false:=by decide)(j:starEach (e::es) X.env=(false,eval e X.env)::starEach es X.env:=by exact dH rfl)(a:(backTo pos (starEach es X.env)).any (·.1)=false:=by exact eH rfl):
  VE X md P (.Call (.Name x p) (e::es) [] pos) (aG cf ma):=Fp cM C f l g d j a
theorem mY(C:Can X.prog X.w X.K X.mg X.base x ps k (vSp X.K X.mg pm (rO X.K) cf))(f:bj k X.A)(l:AE X md P pm (e::es) ma)(g:Gl X x:=by rfl)(d:(x == ("__debug__":Str))=false:=by decide)(j:starEach (e::es) X.env=(false,eval e X.env)::starEach es X.env:=by exact dH rfl)(a:(backTo pos (starEach es X.env)).any (·.1)=false:=by exact eH rfl):
  OE X md P (.Call (.Name x p) (e::es) [] pos) (aG cf ma):=Fp fB C f l g d j a
theorem Uk(C:Can X.prog X.w X.K X.mg X.base x ps k (vSp X.K X.mg [] (rV X.K) cf))(d:bj k X.A)(f:Gl X x:=by rfl)(a:(x == ("__debug__":Str))=false:=by decide):VE X md P (.Call (.Name x p) [] [] pos) (aG cf au):=S7 cM C d f a
theorem Gi{pl:Sem Bool}(M:fQ X.prog X.w X.K X.mg X.base c m ps k (vSp X.K X.mg (.v::pm) (rV X.K) cf))(j:bj k X.A)(l:VE X md P o mo)(n:AE X md P pm (e::es) ma)(a:starEach (e::es) X.env=(false,eval e X.env)::starEach es X.env:=by exact dH rfl)(d:(backTo pos (starEach es X.env)).any (·.1)=false:=by exact eH rfl)
  (g:eval (.Call (.Attribute o m apos) (e::es) [] pos) X.env=(do
   let ov <-eval o X.env
   standAt apos.atName
   let (f,first) <-holding [ov] (getMethod ov m pl)
   callWith pos f first (backTo pos (starEach (e::es) X.env)) (backToKw pos (keywordEach [] X.env))):=by rfl):VE X md P (.Call (.Attribute o m apos) (e::es) [] pos) (bO c m cf mo ma):=Gd cM M j l n a d g
theorem rM{pl:Sem Bool}(M:fQ X.prog X.w X.K X.mg X.base c m ps k (vSp X.K X.mg (.v::pm) (rO X.K) cf))(j:bj k X.A)(l:VE X md P o mo)(n:AE X md P pm (e::es) ma)(a:starEach (e::es) X.env=(false,eval e X.env)::starEach es X.env:=by exact dH rfl)(d:(backTo pos (starEach es X.env)).any (·.1)=false:=by exact eH rfl)
  (g:eval (.Call (.Attribute o m apos) (e::es) [] pos) X.env=(do
   let ov <-eval o X.env
   standAt apos.atName
   let (f,first) <-holding [ov] (getMethod ov m pl)
   callWith pos f first (backTo pos (starEach (e::es) X.env)) (backToKw pos (keywordEach [] X.env))):=by rfl):OE X md P (.Call (.Attribute o m apos) (e::es) [] pos) (bO c m cf mo ma):=Gd fB M j l n a d g
theorem pH{pl:Sem Bool}(M:fQ X.prog X.w X.K X.mg X.base c m ps k (vSp X.K X.mg [.v] (rV X.K) cf))(d:bj k X.A)(g:VE X md P o mo)
  (a:eval (.Call (.Attribute o m apos) [] [] pos) X.env=(do
   let ov <-eval o X.env
   standAt apos.atName
   let (f,first) <-holding [ov] (getMethod ov m pl)
   callWith pos f first (backTo pos (starEach [] X.env)) (backToKw pos (keywordEach [] X.env))):=by rfl):VE X md P (.Call (.Attribute o m apos) [] [] pos) (bO c m cf mo au):=T7 cM M d g a
end
section
variable {X:Cx}{md:List Md}{P:Pt}{R:RR}{elts:List Expr}{x1:Nat}{tpos:Pos}
def rN:List D->List D->List D
 |d::ds,e::es=>.tup [d,e]::rN ds es
 | _,_=>[]
def Gj(a mb:M D):M (List D):=λρ O=>(a ρ O).bind λd f=>(mb ρ f).bind λe c=>match d,e with
 | .lst ds,.lst es=>.ok (rN ds es) c
 | _,_=>.no
def pI(m:MS):MS:=λρ O=>match m ρ O with
 | .rt d O'=>.rt d O'
 | _=>.no
theorem SlO.toV{K:Frag}{ρ:aA}{σ:St}{H F l:Hp}{I:List Addr}{i:Nat}(s:SlO K md P ρ σ H F I)(L:md[i]?=some .o)(ff:Same F l)
  (g:∀(j:Nat) (ds:List D) (a:Addr),j≠i->md[j]?=some .o->ρ[j]?=some (some (.lst ds))->σ[j]?=some (some (.ref a))->l a=F a)
  (hv:∀d,ρ[i]?=some (some d)->∃v,σ[i]?=some (some v)/\Rp K l I v d):SlO K (md.set i .v) P ρ σ H l I:=by
 have O:i<md.length:=(zr.mp L).1
 have back:∀(j:Nat),(md.set i Md.v)[j]?=some Md.o->j≠i/\md[j]?=some .o:=λj e=>by
  by_cases c:j=i
  ·subst c;rw[zP O] at e;cases e
  ·rw[zt (Ne.symm c)] at e;exact⟨c,e⟩
 refine⟨by rw[jc];exact s.len,by rw[jc];exact s.len',s.pd,λj m d f G=>?_,λj k a ds Z h1 h2 h3 h4 Y W=>s.inj j k a ds Z (back j h1).2 (back k h2).2 h3 h4 Y W,λx U=>?_⟩
 ·by_cases c:j=i
  ·subst c;rw[zP O] at f;cases f;exact hv d G
  ·rw[zt (Ne.symm c)] at f;obtain⟨v,q,t⟩:=s.sl j m d f G;refine⟨v,q,?_⟩
   cases m with
   |v=>exact Rp.mono ff (λ_ _ z=>z) _ t
   |s =>
    rcases t with t | ⟨a,n,ds,t1,t2,B,y,u,r⟩
    ·exact .inl (Rp.mono ff (λ_ _ z=>z) _ t)
    ·exact .inr ⟨a,n,ds,t1,t2,B,y,u,Rps.mono ff (λ_ _ z=>z) _ r⟩
   |o =>
    rcases t with⟨C,t⟩ | ⟨a,n,ds,rfl,rfl,B,C,y,u,r⟩
    ·exact .inl ⟨C,Rp.mono ff (λ_ _ z=>z) _ t⟩
    ·exact .inr ⟨a,n,ds,rfl,rfl,B,by rw[g j ds a c f G q];exact C,y,u,Rps.mono ff (λ_ _ z=>z) _ r⟩
 ·obtain⟨E,T,Q⟩:=s.pin x U
  have J:i≠x.1:=λz=>by rw[<-z,L] at E;cases E
  exact⟨by rw[zt J];exact E,T,Q⟩
theorem Ul{K:Frag}{mg:Str->Option Value}{i:Nat}{m:MS}(n:md[i]?=some .o){D:Ends}{σ:St}{H:Hp}(q:tMS K mg md P R (pI m) D σ H):tMS K mg (md.set i .v) P R m D σ H:=by
 obtain⟨ρ,O,F,B,r,s,k⟩:=q;unfold pI at k
 cases e:m ρ O with
 |rt d O' =>
  rw[e] at k
  by_cases G:∃x,ρ[i]?=some (some (.lst x))
  ·obtain⟨x,l⟩:=G;obtain⟨a,y,h1,h2,h3,h4,Y,W⟩:=s.own n l
   have ff:Same F (upd F a (.lst y)):=λb u q=>by rw[aL (cz q h3)];exact q
   have Z:GrS P H F B H (upd F a (.lst y)) B:=⟨λc _ p _ _ _=>aL (λz=>Y (by rw[<-z];exact p)),ff,⟨[],by simp,λ_ h=>nomatch h⟩,λ_ _ _ h _ _=>h,λ_ h=>h,λ_ _ _ h=>h⟩;refine⟨ρ,O,upd F a (.lst y),B,r.frz h2 h3 h4 rfl,s.toV n ff (λj es b U Q L E=>?_) (λI f=>?_),?_⟩
   ·refine aL λz=>U ?_
    rw[z] at E;exact s.inj j i a es x Q n L l E h1
   ·rw[l] at f;cases f;exact⟨_,h1,Rp.mkL (.inl (.inl bI)) (Rps.mono ff (λ_ _ z=>z) _ W)⟩
   ·rw[e]
    exact λv H' F' C g J T=>k v H' F' C (Z.trans g) J T
  ·refine⟨ρ,O,F,B,r,s.toV n (Same.refl F) (λ_ _ _ _ _ _ _=>rfl) (λI f=>?_),by rw[e];exact k⟩;obtain⟨v,h1,h2⟩:=s.sl i .o I n f
   rcases h2 with⟨_,h2⟩ | ⟨a,y,x,_,rfl,_⟩
   ·exact⟨v,h1,h2⟩
   ·exact absurd ⟨x,f⟩ G
 | _=>rw[e] at k;exact False.elim k
theorem Um(i:Nat){st:Stmt}{m:MS}(a:md[i]?=some .o)(h:VS X (md.set i .v) P R st m):VS X md P R st (pI m):=h.imp λ_ _ _=>Ul a
end
section
variable {prog:Program}{w:World}{A:Around}{E:Value->Shared->Prop}
end
section
variable {X:Cx}{md:List Md}{P:Pt}{R:RR}
theorem Uo{d:List Addr}{a:Addr}:∀(n:Nat) (c:Addr),d[n]?=some c->(d++[a])[n]?=some c:=λn c h=>by
 rw[zB (zr.mp h).1];exact h
theorem Gk{H F:Hp}{d:List Addr}{a:Addr}{h:HO}(j:a∈d)(f:H a=some h){o:HO}(g:∀o u,h≠.frz o u:=by intro _ _ z;cases z):Gr H F d (upd H a o) F d :=
 ⟨λ_ _ _ _ _=>rfl,Same.refl F,⟨[],by simp,λ_ h=>nomatch h⟩,λc u e hn _=>by rw[aL (λz=>hn (by rw[z];exact j))];exact e,λc e=>by
  by_cases h:c=a
  ·subst h;rw[bI] at e;cases e
  ·rwa [aL h] at e,λc l u e=>by rw[aL (λz=>by rw[z,f] at e;cases e;exact g _ _ rfl)];exact e⟩
theorem RlO.ml{K:Frag}{mg:Str->Option Value}{O:aq}{H F:Hp}{c:List Addr}{n:Nat}{a:Addr}{ds:List D}(r:RlO K mg O H F c)(d:c[n]?=some a)(f:O[n]?=some (.ml ds)):∃xs,H a=some (.lst xs)/\Rps K F c xs ds:=r.ob n a _ d f
end
def mZ(K:Frag)(mg:Str->Option Value)(x:Str)(ls:List (List Nat)):Prop:=∃(a:Addr) (o:Obj) (c:Array Value) (n:Nat),mg x=some (.ref a)/\K.lookup a=some o/\o.cls=.type "tuple"/\o.data=.seq c n/\c.size<=sizeLine/\aN (ls.map λl=>V.str (S l)) c.toList
theorem Rps.texts{K:Frag}{F:Hp}{a:List Addr}:∀ls:List (List Nat),Rps K F a (ls.map λl=>V.str (S l)) (ls.map D.str)
 | []=>Rps.nil
 |l::ls=>Rps.cons Rp.str (Rps.texts ls)
theorem pJ{X:Cx}{md:List Md}{P:Pt}{x:Str}{ls:List (List Nat)}{c:Pos}(h:mZ X.K X.mg x ls)(m:Gl X x:=by rfl)(g:(x == ("__debug__":Str))=false:=by decide):VE X md P (.Name x c) (mC (.tup (ls.map D.str))):=by
 obtain⟨a,o,f,n,j,l,h1,h2,h3,h4⟩:=h
 refine(Ei (v:=.ref a) ⟨_,j,rfl⟩ m g).imp λσ H Q q=>?_
 obtain⟨ρ,O,F,u,d,y,r,s,e,k⟩:=q;cases e;exact k _ H F u Gr.refl r (Rp.mkT (.inr ⟨o,f,n,l,h1,h2,h3,h4⟩) (Rps.texts ls))
theorem cL{α:Type}{p:List α->Prop}(h:p []):∀us:List α,us.length=0->p us:=λus e=>by
 cases us with
 |nil=>exact h
 |cons a c=>cases e
theorem bF{α:Type}{p:List α->Prop}{n:Nat}(h:∀a,∀us:List α,us.length=n->p (a::us)):∀us:List α,us.length=n+1->p us:=λus e=>by
 cases us with
 |nil=>cases e
 |cons a c=>exact h a c (Nat.succ.inj e)
section
variable {prog:Program}{w:World}{κ:Type}[DecidableEq κ]{knd:HeapKind prog w κ}{A:Around}{E:Value->Shared->Prop}{s:Shared}
end
section
variable {X:Cx}{pins:List (Addr×Obj)}{σ:St}{H:Hp}{s:Shared}{a b:Addr}{v:V}{r:Value}{kvs:List (List Key×V)}{k:List Key}{A:Around}{E:Value->Shared->Prop}
end
def wu:List D->Option (List Key)
 | []=>some []
 | .int i::ds=>(wu ds).map (Sum.inl i :: ·)
 | _=>none
theorem Rps.keys{K:Frag}{F:Hp}{f:List Addr}:∀{ds:List D}{xs:List V}{ks:List Key},Rps K F f xs ds->wu ds=some ks->xs=ks.map kV/\∃a:List Int,ks=a.map Sum.inl
 | [],xs,ks,h,e=>by cases e;exact⟨h.un0,[],rfl⟩
 | .int i::ds,xs,ks,h,e=>by
  obtain⟨x,r,rfl,h1,h2⟩:=h.un;obtain⟨g,d,rfl⟩:=jp.mp (show(wu ds).map (Sum.inl i :: ·)=some ks from e);obtain⟨c,a,rfl⟩:=Rps.keys h2 d;exact⟨by rw[h1.unI,c];rfl,i::a,rfl⟩
 | .non::ds,xs,ks,h,e=>by cases e
 | .bl _::ds,xs,ks,h,e=>by cases e
 | .str _::ds,xs,ks,h,e=>by cases e
 | .lst _::ds,xs,ks,h,e=>by cases e
 | .tup _::ds,xs,ks,h,e=>by cases e
 | .dic _ _::ds,xs,ks,h,e=>by cases e
 | .ob _::ds,xs,ks,h,e=>by cases e
def m5(kvs:List (List Key×D))(k:List Key):Option D:=(kvs.find? λp=>decide (p.1=k)).map (·.2)
def Gm(kvs:List (List Key×D))(k:List Key)(d:D):List (List Key×D):=
 if(kvs.any λp=>decide (p.1=k))=true then kvs.map (λp=>if p.1=k then(p.1,d) else p) else kvs++[(k,d)]
def DtR(K:Frag)(F:Hp)(a:List Addr)(xs:List (List Key×V))(kvs:List (List Key×D)):Prop:=xs.map (·.1)=kvs.map (·.1)/\Rps K F a (xs.map (·.2)) (kvs.map (·.2))
section
variable {K:Frag}{mg:Str->Option Value}{O:aq}{H F H' F':Hp}{as as':List Addr}
theorem DtR.len{xs:List (List Key×V)}{kvs:List (List Key×D)}(h:DtR K F as xs kvs):xs.length=kvs.length:=by
 have:=congrArg List.length h.1
 simpa using this
theorem DtR.un{xs:List (List Key×V)}{p:List Key×D}{kvs:List (List Key×D)}(h:DtR K F as xs (p::kvs)):∃v r,xs=(p.1,v)::r/\Rp K F as v p.2/\DtR K F as r kvs:=by
 obtain⟨h1,h2⟩:=h
 cases xs with
 |nil=>cases h1
 |cons x r =>
  obtain⟨v,f,e,d,c⟩:=h2.un;cases e;rw[zd,zd] at h1;have a:=(List.cons.inj h1).1;refine⟨x.2,r,?_,d,(List.cons.inj h1).2,c⟩;rw[<-a]
theorem DtR.val{k:List Key}:∀{kvs:List (List Key×D)}{xs:List (List Key×V)},DtR K F as xs kvs->(m5 kvs k=none/\cI xs k=none)\/∃d v,m5 kvs k=some d/\cI xs k=some v/\Rp K F as v d
 | [],xs,h=>by
  have:=h.len
  cases xs with
  |nil=>exact .inl ⟨rfl,rfl⟩
  |cons=>cases this
 |p::kvs,xs,h=>by
  obtain⟨v,r,rfl,h1,h2⟩:=h.un
  by_cases e:p.1=k
  ·exact .inr ⟨p.2,v,by simp[m5,List.find?_cons,e],lr e,h1⟩
  ·rw[show m5 (p::kvs) k=m5 kvs k by simp[m5,List.find?_cons,e],lu (p:=(p.1,v)) e];exact DtR.val h2
theorem DtR.any{k:List Key}:∀{kvs:List (List Key×D)}{xs:List (List Key×V)},DtR K F as xs kvs->(xs.any λp=>decide (p.1=k))=kvs.any λp=>decide (p.1=k)
 | [],xs,h=>by
  have:=h.len
  cases xs with
  |nil=>rfl
  |cons=>cases this
 |p::kvs,xs,h=>by
  obtain⟨v,r,rfl,h1,h2⟩:=h.un;rw[List.any_cons,List.any_cons,DtR.any h2]
theorem DtR.repl{k:List Key}{v:V}{d:D}(hv:Rp K F as v d):∀{kvs:List (List Key×D)}{xs:List (List Key×V)},DtR K F as xs kvs ->
  DtR K F as (xs.map λp=>if p.1=k then(p.1,v) else p) (kvs.map λp=>if p.1=k then(p.1,d) else p)
 | [],xs,h=>by
  have:=h.len
  cases xs with
  |nil=>exact⟨rfl,Rps.nil⟩
  |cons=>cases this
 |p::kvs,xs,h=>by
  obtain⟨u,r,rfl,h1,h2⟩:=h.un;obtain⟨c,a⟩:=DtR.repl (k:=k) hv h2
  by_cases e:p.1=k
  ·rw[zd,zd,if_pos e,if_pos e];exact⟨by rw[zd,zd,c],Rps.cons hv a⟩
  ·rw[zd,zd,if_neg e,if_neg e];exact⟨by rw[zd,zd,c],Rps.cons h1 a⟩
theorem DtR.put{xs:List (List Key×V)}{kvs:List (List Key×D)}(h:DtR K F as xs kvs)(k:List Key){v:V}{d:D}(hv:Rp K F as v d):DtR K F as (putK xs k v) (Gm kvs k d):=by
 unfold putK Gm;rw[h.any]
 split
 ·exact h.repl hv
 ·exact⟨by rw[zI,zI,h.1];rfl,by rw[zI,zI];exact Rps.snoc h.2 hv⟩
theorem DtR.mono{xs:List (List Key×V)}{kvs:List (List Key×D)}(h:DtR K F as xs kvs)(e:Same F F')(c:∀(n:Nat) (a:Addr),as[n]?=some a->as'[n]?=some a):DtR K F' as' xs kvs:=⟨h.1,Rps.mono e c _ h.2⟩
theorem RlO.dt{n:Nat}{a:Addr}{kvs:List (List Key×D)}(r:RlO K mg O H F as)(c:as[n]?=some a)(d:O[n]?=some (.dt kvs)):∃xs,H a=some (.dT xs)/\DtR K F as xs kvs:=let ⟨xs,h1,h2,h3⟩:=r.ob n a _ c d;⟨xs,h1,h2,h3⟩
theorem RlO.snocO{a:Addr}{o:Ob}(r:RlO K mg O H F as)(q:F a=none)(m:a∉as)(l:ObR K mg H F (as++[a]) a o):RlO K mg (O++[o]) H F (as++[a]):=by
 refine⟨r.fh,r.fd,jg.mpr ⟨r.nd,by simp,λc f d hd=>by rw[zw.mp hd];exact λz=>m (z ▸ f)⟩,by rw[zn,zn,r.len];rfl,λc f=>?_,λn c u f g=>?_⟩
 ·rcases zC.mp f with f | f
  ·exact r.fa c f
  ·rw[zw.mp f];exact q
 ·by_cases j:n<as.length
  ·rw[zB j] at f;rw[zB (by rw[<-r.len];exact j)] at g;exact(r.ob n c u f g).keep rfl (Same.refl F) Uo
  ·have hn':n=as.length:=by
    have:=(zr.mp f).1
    rw[zn,jd] at this;omega
   subst hn';rw[zH (zc _),Nat.sub_self] at f;rw[r.len,zH (zc _),Nat.sub_self] at g;cases f;cases g;exact l
theorem RlO.mutG{n:Nat}{a:Addr}{o:Ob}{h:HO}(r:RlO K mg O H F as)(f:as[n]?=some a)(y:ObR K mg (upd H a h) F as a o):RlO K mg (O.set n o) (upd H a h) F as:=by
 have B:=zJ f;refine⟨λc u e=>?_,r.fd,r.nd,by rw[jc];exact r.len,r.fa,λm c u g d=>?_⟩
 ·rw[aL (λz=>by rw[z,r.fa a B] at e;cases e)];exact r.fh c u e
 ·by_cases j:m=n
  ·subst j;rw[f] at g;cases g
   have l:m<O.length:=by rw[<-r.len];exact(zr.mp f).1
   rw[zP l] at d;cases d;exact y
  ·rw[zt (Ne.symm j)] at d
   refine(r.ob m c u g d).keep (aL λz=>j ?_) (Same.refl F) λ_ _ h=>h
   obtain⟨C,q⟩:=zr.mp g;obtain⟨E,x⟩:=zr.mp f;exact(List.getElem_inj r.nd).mp (q.trans (z.trans x.symm))
theorem RlO.unF{p:Addr}(r:RlO K mg O H F as)(a:H p=none):F p=none:=by
 cases e:F p with
 |none=>rfl
 |some o=>rw[r.fh p o e] at a;cases a
theorem Gr.snoc{p:Addr}{o:HO}(c:H p=none):Gr H F as (upd H p o) F (as++[p]):=
 ⟨λ_ _ _ _ _=>rfl,Same.refl F,⟨[p],rfl,λa h=>by rw[zw.mp h];exact c⟩,λa u e _ _=>by rw[aL (cz e c)];exact e,λa e=>by
  by_cases h:a=p
  ·subst h;exact c
  ·rwa [aL h] at e,λa d u e=>by rw[aL (cz e c)];exact e⟩
end
section
variable {X:Cx}{md:List Md}{P:Pt}{R:RR}
end
section
variable {X:Cx}
open Classical in
noncomputable def eqR(s:Shared)(x:PyData)(u:Value):Bool:=decide (∃d a,Reads s.heap u d a/\d.canLay0=true/\PyData.eqv d x=true)
open Classical in
theorem QyO{s:Shared}{x d:PyData}{u:Value}{a:List Addr}(h:Reads s.heap u d a)(hd:d.canLay0=true):eqR s x u=PyData.eqv d x:=by
 unfold eqR
 cases e:PyData.eqv d x with
 |true=>exact zj ⟨d,a,h,hd,e⟩
 |false =>
  refine ze λ⟨d',as',h',hd',e'⟩=>?_
  rw[<-SeqAt.Reads.unique d d' u a as' hd h h',e] at e';cases e'
end
section
variable {X:Cx}{md:List Md}{P:Pt}{R:RR}
end
section
variable {K:Frag}{mg:Str->Option Value}{O:aq}{H F:Hp}{as:List Addr}
end
section
variable {X:Cx}{md:List Md}{P:Pt}{R:RR}
end
section
variable {X:Cx}{md:List Md}{P:Pt}{R:RR}
end
end L2
namespace L2
open PySem PySem.Spec PyProof.Rows PySem.W PySem.Calls
section
variable {prog:Program}{w:World}{A:Around}{E:Value->Shared->Prop}{s:Shared}{a:Addr}{vs out:List Value}{p:Array Nat}
end
section
variable {X:Cx}
theorem Rps.getD{K:Frag}{F:Hp}{a:List Addr}{ds:List D}{xs:List V}(h:Rps K F a xs ds)(i:Nat):Rp K F a (xs.getD i V.non) (ds.getD i .non):=by
 rw[je,je]
 cases e:ds[i]? with
 |none =>
  have:xs[i]?=none:=by
   rw[List.getElem?_eq_none_iff] at e ⊢;rw[h.length];exact e
  rw[this];exact Rp.non
 |some d =>
  obtain⟨v,c,r⟩:=h.get' e;rw[c];exact r
end
structure Gn(mg:Str->Option Value):Prop extends Blt mg where
 sorted_:mg "sorted" = none
end L2
namespace L2
open PySem PySem.Spec PyProof.Rows
abbrev Up(h:Heap)(z TI TO T:Addr)(b:Bool):Prop :=
 h.get? z=some {cls:=.type "zip",dict:=none,data:=.fields #[rawInt T,.bool b,.bool false,.ref TI,.ref TO],slots:=#[]}
section
variable {prog:Program}{w:World}{A:Around}{E:Value->Shared->Prop}{s:Shared}
structure ZS(base:Nat)(h:Heap)(z TI TO i1 i2 l1 l2 S:Addr)(xs ys acc:Array Value)(c i:Nat):Prop where
 zi:(IsZip h z TI TO .none/\∃a b,IsPair h TO a b)\/∃T b o,Up h z TI TO T b/\h.get? T=some o/\T∉[z,TO,i1,i2,S]
 ti:IsPair h TI (.ref i1) (.ref i2)
 it1:h.IsListIter i1 l1 i
 it2:h.IsListIter i2 l2 i
 a1:h.IsList l1 xs
 a2:h.IsList l2 ys
 ls:h.get? S=some {cls:=.type "list",dict:=none,data:=.seq acc c,slots:=#[]}
 sz:acc.size=i
 tl:TO<h.objs.size
 nd:acc.toList.Nodup
 ts:∀(j:Nat) (v:Value),acc[j]?=some v->∃(T:Addr) (x y:Value),v=Value.ref T/\xs[j]?=some x/\ys[j]?=some y/\IsPair h T x y/\T∉[z,TO,i1,i2,S]/\base<=T
variable {R:PySem.Result->Shared->Prop}
end
theorem Un.more{fs ex:List Addr}{H H1:Hp}{h h':Heap}{a:Addr}{o:HO}(u:Un fs ex H H1 h h')(hp:h.objs.size<=a)(hn:H1 a=none):Un fs ex H (upd H1 a o) h h' where
 keep:=u.keep
 slot:=u.slot
 free:=λb ob q n hx=>by rw[aL (zo (zF (zk q) hp))];exact u.free b ob q n hx
 there:=u.there
 tups:=λb xs q=>by have z:=u.tups b xs q;rw[aL (cz z hn)];exact z
 frzs:=λb ob v q=>by have z:=u.frzs b ob v q;rw[aL (cz z hn)];exact z
 tbls:=λb ps q=>by obtain⟨m,z⟩:=u.tbls b ps q;exact⟨m,by rw[aL (cz z hn)];exact z⟩
theorem HOk.more{P:Program}{w:World}{H:Hp}{h:Heap}{a:Addr}{o:HO}(x:HOk P w H h)(f:H a=none)(d:bW P w (upd H a o) h a o):HOk P w (upd H a o) h:=λb u e=>by
 by_cases g:b=a
 ·subst g;rw[bI] at e;cases e;exact d
 ·rw[aL g] at e
  exact(x b u e).stay (λc v _ q=>q) (λc q=>by rw[aL (cz q f)];exact q) λc j q=>by rw[aL (cz q f)];exact q
section
variable {X:Cx}
end
section
variable {X:Cx}{md:List Md}{P:Pt}
end
section
end
end L2
namespace L2
open PySem PySem.Spec PyProof.Rows PySem.W
section
variable {X:Cx}{md:List Md}{P:Pt}
end
end L2
namespace L2
open PySem PySem.Spec PyProof.Rows
section
variable {X:Cx}{md:List Md}{P:Pt}{R:RR}
variable {elts:List Expr}{x1:Nat}{tpos:Pos}{a elt:Expr}{ifs:List Expr}{scope:Scope}{p pos pe:Pos}{m:M D}{g:MG}{t:M Bool}{e:M D}
end
section
variable {X:Cx}{md:List Md}{P:Pt}{R:RR}{tg:Expr}
end
structure QzT(mg:Str->Option Value):Prop extends Gn mg where
 reversed_:mg "reversed" = none
end L2
namespace L2
open PySem PySem.Spec PyProof.Rows PySem.W
def mdI:Option Int->List Int->Option Int
 |b,[]=>b
 |none,n::r=>mdI (some n) r
 |some m,n::r=>mdI (some (if n<m then n else m)) r
def MdV(d v:Value):Option Int->Prop
 |none=>v=d
 |some m=>∃t,v=.int m t
def MdB(bs:Array Value):Option Int->Prop
 |none=>bs = #[]
 |some m=>∃t,bs = #[.int m t,.int m t]
section
variable {prog:Program}{w:World}{A:Around}{E:Value->Shared->Prop}
theorem Uq{a:String}{b:Builtin}{j:List Value}{g:List (Str×Value)}{s:Shared}{Q:Value->Shared->Prop}(q:builtinKind a=none)(n:plainId a=true)(u:entryFor table a=some b)(m:argsOk a ⟨j,g⟩)
  (c0:wpAny (model prog w) A.in1 (b ⟨j,g⟩) (λl d=>match l with
   | .done f=>(match(Except.ok f:Result) with | .ok (.ret v)=>Q v d | .ok _=>False | .error e=>E e d)
   | .again c=>c.quiet=true/\codeAny (model prog w) A c (λr d=>match r with | .ok (.ret v)=>Q v d | .ok _=>False | .error e=>E e d) d) E s):
  wpAny (model prog w) A (call (.builtin a) j g) Q E s:=by
 refine wpAny_call (codeAny_call_builtin n u ?_);simp only[checkBuiltinCall,q]
 cases g0:Manifest.signature? a with
 |none=>exact zb c0
 |some sg =>
  simp only[argsOk,g0] at m;have z:Bind.checkArgs a sg ⟨j,g⟩=pure ():=m;show wpAny _ A.in1 (Bind.checkArgs a sg ⟨j,g⟩) _ _ s;rw[z];exact zb c0
theorem Ur{n m:Int}{t u:Tok}{s:Shared}{Q:Value->Shared->Prop}(q:Q (.bool (decide (n<m))) s):wpAny (model prog w) A (richCompare .Lt (.int n t) (.int m u)) Q E s :=
 CmpOf.ints_lt (A:=A) (P:=λi v=>∃t,v=.int (if i=0 then n else m) t) (λi=>if i=0 then n else m) (λ_ _ z=>z) 0 1 _ _ s Q E ⟨t,rfl⟩ ⟨u,rfl⟩ q
theorem Us{R:Result->Shared->Prop}{l i0 S:Addr}{its:List Value}{d:Value}(hh:A.in1.handled=none)(n1:l≠i0)(n2:S≠i0)(n3:S≠l):
  ∀(us:List Value) (ns:List Int) (pre:List Value) (b:Option Int) (bs:Array Value) (s:Shared) (c:Nat),its=pre++us->aN (ns.map V.int) us->s.heap.IsListIter i0 l pre.length->s.heap.IsList l its.toArray->MdB bs b ->
   s.heap.get? S=some {cls:=.type "list",dict:=none,data:=.seq bs c,slots:=#[]} ->
   (∀v h' tk,MdV d v (mdI b ns)->(∀x o,x≠i0->x≠S->s.heap.get? x=some o->h'.get? x=some o)->R (.ok (.ret v)) {s with heap:=h',toks:=tk}) ->
   codeAny (model prog w) A (.builtin "min.loop" ⟨[.ref i0,.none,.ref S],[("default",d)]⟩) R s:=by
 have W:=Walks.list (prog:=prog) (w:=w) hh i0 l n1 its.toArray
 have nm:(toString "min" ++ toString ".loop":String) = "min.loop":=by decide
 have nS:S∉[i0]:=λz=>n2 (zw.mp z)
 have X:∀x:Addr,x≠i0->x∉[i0]:=λx z y=>z (zw.mp y)
 intro us
 induction us with
 |nil =>
  intro ns pre b bs s c e rv it Y J L T
  have ens:ns=[]:=by
   cases ns with
   |nil=>rfl
   |cons=>cases rv
  subst ens
  have Z:pre.length=its.toArray.size:=by rw[e];simp
  rw[Z] at it;refine jh PySem.F.entry_min_loop ?_;rw[Around.under_plainId PySem.F.plain_min_loop _];show wpAny _ A.in1 (seqItems? (.ref S) >>= _) _ _ s;refine za (wpAny_seqItems L rfl ?_);show wpAny _ A.in1 (tryCatch (pyNext (.ref i0)) _ >>= _) _ _ s;refine za (wpAny_tryCatch (W.done s _ _ ⟨it,Y⟩ λh1 tk kp=>?_));have j:=kp S _ nS L
  cases b with
  |none =>
   have g:bs = #[]:=J;subst g;show wpAny _ A.in1 (rule _ >>= _) _ _ _;refine za (zW ?_);exact zb (T d h1 tk rfl λx o H Q q=>kp x o (X x H) q)
  |some m =>
   obtain⟨t,g⟩:=J;subst g;show wpAny _ A.in1 (updateSeq S (λ_=>#[]) >>= _) _ _ _;refine za ?_;refine jm j rfl (za (wpAny_letGo (zb ?_)))
   exact T (.int m t) _ tk ⟨t,rfl⟩ λx o H Q q=>(jk _ _ (Ne.symm Q)).trans (kp x o (X x H) q)
 |cons u us ih =>
  intro ns pre b bs s c e rv it Y J L T
  cases ns with
  |nil=>cases rv
  |cons n ns =>
   have rv':aN (V.int n::ns.map V.int) (u::us):=rv
   obtain⟨ru,rus⟩:RelV (.int n) u/\aN (ns.map V.int) us:=by
    cases rv' with
    |cons a b=>exact⟨a,b⟩
   obtain⟨r,rfl⟩:=ru
   have Z:pre.length<its.toArray.size:=by rw[e];simp
   have e':its=(pre++[Value.int n r])++us:=by rw[e];simp
   have eg:its.toArray[pre.length]?=some (Value.int n r):=by rw[e];simp
   refine jh PySem.F.entry_min_loop ?_;rw[Around.under_plainId PySem.F.plain_min_loop _];show wpAny _ A.in1 (seqItems? (.ref S) >>= _) _ _ s;refine za (wpAny_seqItems L rfl ?_);show wpAny _ A.in1 (tryCatch (pyNext (.ref i0)) _ >>= _) _ _ s;refine za (wpAny_tryCatch (W.item pre.length s _ _ Z ⟨it,Y⟩ λv h1 tk hv st kp=>?_));rw[eg] at hv;cases hv;have j:=kp S _ nS L
   have G:∀(h2:Heap) (y:Addr) (o:Obj),y≠S->h2.get? y=some o->∀f,(h2.update S f).get? y=some o:=λh2 y o z q f=>(jk _ _ (Ne.symm z)).trans q
   have go:∀(U:Option Int) (C:Array Value) (h2:Heap) (O:Nat) (c2:Nat),MdB C U->mdI U ns=mdI b (n::ns)->h2.get? S=some {cls:=.type "list",dict:=none,data:=.seq C c2,slots:=#[]} ->
     (∀x o,x≠S->h1.get? x=some o->h2.get? x=some o)->codeAny (model prog w) A (.builtin "min.loop" ⟨[.ref i0,.none,.ref S],[("default",d)]⟩) R {s with heap:=h2,toks:=O}:=λU C h2 O c2 q1 q2 q3 q4=>by
    have P:=W.frame _ h1 h2 st λx I o q=>q4 x o (λz=>by
     rcases zp.mp I with rfl | I
     ·exact n2 z.symm
     ·rcases zp.mp I with rfl | I
      ·exact n3 z.symm
      ·cases I) q
    refine ih ns (pre++[Value.int n r]) U C _ c2 e' rus (by rw[zn];exact P.1) P.2 q1 q3 λv h3 tk3 H Q=>?_
    exact T v h3 tk3 (q2 ▸ H) λx o y1 y2 q=>Q x o y1 y2 (q4 x o y2 (kp x o (X x y1) q))
   cases b with
   |none =>
    have g:bs = #[]:=J;subst g;show wpAny _ A.in1 (updateSeq S (λ_=>#[Value.int n r,Value.int n r]) >>= _) _ _ _;refine za ?_;refine jm j rfl ?_;rw[nm];exact zb ⟨plainId_quiet PySem.F.plain_min_loop _,go (some n) _ _ _ _ ⟨r,rfl⟩ rfl (Heap.get?_update_self _ j rfl) λx o z q=>G _ x o z q _⟩
   |some m =>
    obtain⟨t,g⟩:=J;subst g;show wpAny _ A.in1 (tryCatch (holding [Value.int n r,Value.int n r] (richCompare .Lt (.int n r) (.int m t) >>= _)) _ >>= _) _ _ _;refine za (wpAny_tryCatch (zR (za (Ur ?_))));refine za (zR (wpAny_truthy_bool ?_));refine za (wpAny_letGo (zb ?_))
    by_cases B:n<m
    ·rw[zj B];simp only[if_true];refine za ?_;refine jm j rfl (za (wpAny_letGo ?_));rw[nm];exact zb ⟨plainId_quiet PySem.F.plain_min_loop _,go (some n) _ _ _ _ ⟨r,rfl⟩ (by show _=mdI (some (if n<m then n else m)) ns;rw[if_pos B]) (Heap.get?_update_self _ j rfl) λx o z q=>G _ x o z q _⟩
    ·rw[ze B];simp only[Bool.false_eq_true,if_false];refine za (wpAny_letGo ?_);rw[nm];exact zb ⟨plainId_quiet PySem.F.plain_min_loop _,go (some m) _ _ _ _ ⟨t,rfl⟩ (by show _=mdI (some (if n<m then n else m)) ns;rw[if_neg B]) j λx o z q=>q⟩
end
section
variable {X:Cx}{md:List Md}{P:Pt}{R:RR}
def rP:List D->Option D
 | [.lst ds]=>(gQ ds).map λns=>match mdI none ns with
  |some m=>.int m
  |none=>.non
 | _=>none
theorem Ut(a d:Value):argsOk "min" ⟨[a],[("default",d)]⟩:=by unfold argsOk;kernel_rfl
theorem Uu(r:X.calm=true){pins:List (Addr×Obj)}{s:Shared}{σ:St}{H:Hp}{a:Addr}{ns:List Int}{Q:VK}(I:Inv X pins σ H s)(n:SqL X.K H a (ns.map V.int))(q:Q (match mdI none ns with | some m=>.int m | none=>.non) H):
  wpAny (model X.prog X.w) X.A (call (.builtin "min") [.ref a] [("default",.none)]) (EP X pins σ Q) X.xe s:=by
 obtain⟨its,rv,g,_⟩:=I.list n;have f:=g.isList
 have la:a<s.heap.objs.size:=by obtain⟨_,z,_⟩:=f;exact zk z
 refine Uq PySem.F.kind_min PySem.F.plain_min PySem.F.entry_min (Ut _ _) ?_;show wpAny _ X.A.in1 (Builtin.Builtins.bindParams "min" ["key","default"] 0 ⟨[],[("default",.none)]⟩ >>= _) _ _ s;refine za (jl (show _=pure [none,some Value.none] from rfl) ?_);refine za (zb ?_);refine za (wpAny_pyIter_list f ?_);refine za (wpAny_newObj_type ?_);rw[show(toString "min" ++ toString ".loop":String) = "min.loop" by decide];have sz:(s.heap.push {cls:=.type "list_iterator",data:=.fields #[.ref a,.int 0 0]}).objs.size=s.heap.objs.size+1:=Heap.size_push ..
 refine zb ⟨plainId_quiet PySem.F.plain_min_loop _,Us (its:=its) (l:=a) (i0:=s.heap.objs.size) (d:=.none) (I.ok.hd r) (zo la) (Nat.ne_of_gt (by rw[sz];exact zZ _)) (Nat.ne_of_gt (by rw[sz];exact jf la)) its ns [] none #[] _ 0 rfl rv
  ⟨_,zl _ (zx _ rfl),rfl,rfl⟩ ((f.push _).push _) rfl (zx _ rfl) λv h1 tk c kp=>?_⟩
 have j:∀b o,s.heap.get? b=some o->h1.get? b=some o:=λb o z=>kp b o (zo (zk z)) (zo (by rw[sz];exact jf (zk z))) (zl _ (zl _ z))
 refine⟨_,H,I.kept (t':=tk) j,?_,q⟩
 cases e:mdI none ns with
 |none =>
  rw[e] at c;exact c
 |some m =>
  rw[e] at c;exact c
theorem Uv{p c x n:Pos}{j:Nat}{e:Expr}{m:M D}(L:X.calm=true)(E:X.mg "min" = none)(T:SE X md P e m)(G:Gl X "min":=by rfl)(C:starEach [e] X.env=(false,eval e X.env)::starEach [] X.env:=by exact dH rfl)(g:(backTo c (starEach [e] X.env)).any (·.1)=false:=by exact eH rfl)
  (J:backTo c (starEach [e] X.env)=(false,eval e X.env)::backTo c (starEach [] X.env):=by rfl):
  OE X md P (.Call (.Name "min" p) [e] [⟨some "default",.Constant .none j x,n⟩] c) (bK rP (ak m au)):=by
 intro pins s σ H Q I q;refine wpAny_Call_Name_kw (oF I G E boot_min ?_ (by decide) (by decide));have q':=v5 (ms:=[.s]) q;refine callWith_kw (thn ((aK T aJ C) c pins s σ H _ I q') λus s1 ⟨vs,H1,I1,r1,q1⟩=>?_) J g;refine kws_cons (Constant_none (kws_nil ?_));obtain⟨O,F,Z,Y,d,r,f,e,k⟩:=q1;unfold rP at e;split at e
 ·rename_i U;obtain⟨v,rfl,B⟩:=f.one;obtain⟨a,W,rfl,h1,h2⟩:=B.list r.fh;obtain⟨u,rfl,l⟩:=vals1 r1;cases l
  cases hi:gQ U with
  |none=>rw[hi] at e;cases e
  |some ns =>
   rw[hi] at e;cases e;have y:=h2.ints hi;refine Uu L I1 (ns:=ns) (by rw[<-y];exact h1.sq) ?_
   cases em:mdI none ns with
   |none =>
    dsimp only at k;rw[em] at k;exact cQ r k rfl Rp.non
   |some m =>
    dsimp only at k;rw[em] at k;exact cQ r k rfl Rp.int
 ·cases e
end
def Itd(lo:Int)(n:Nat):It:=⟨λi _=>i<n,λi H x a=>a=H/\x=.int (lo - i),λi _=>n<=i⟩
def gU(lo:Int)(n:Nat):List D:=(List.range n).map λi:Nat=>.int (lo - i)
theorem Uw{P:Program}{w:World}{K:PySem.W.Frag}{tg:Expr}(it:Addr)(lo:Int)(n:Nat):Turn P w K tg (Itd lo n) [it] it (λi h=>IsRangeIter h it (lo+(i:Nat) * (-1)) ((n:Int) - (i:Nat)) (-1)) where
 mem:=by simp
 obj:=λi h st b hb=>by
  have e:b=it:=by simpa using hb
  subst e
  exact⟨_,st,λv z=>by
   have z':Data.fields _=Data.cell v:=z
   cases z'⟩
 keep:=λi h h' st k=>k it (by simp) _ st
 item:=by
  intro X hP hw hK hc i pins s σ H E I hf st hg;subst hP hw hK;obtain⟨f0,f1,f2,f3,f4,f5⟩:=hf it (by simp);have W:=Walks.range (prog:=X.prog) (w:=X.w) (I.ok.hd hc) it lo (-1) n
  refine W.item i s _ _ hg st λv h' tk hv st' kk=>?_
  obtain⟨t,rfl⟩:=hv;have I1:Inv X pins σ H {s with heap:=h',toks:=tk}:=I.turned (λb o hb e=>kk b o (by simpa using hb) e) f0 f1 f3 f4 f5;refine⟨_,rfl,mH (s:={s with heap:=h',toks:=tk}) (n:="range_iterator") st' rfl rfl (by decide) ⟨.int (lo - i),H,I1,⟨t,?_⟩,⟨rfl,rfl⟩,st',λb hb=>(hf b hb).1⟩⟩;rw[show lo+(i:Int) * (-1)=lo - i by omega]
 done:=by
  intro X hP hw hK hc i pins s σ H E I hf st hg;subst hP hw hK;obtain⟨f0,f1,f2,f3,f4,f5⟩:=hf it (by simp)
  exact wpAny_pyNext_range_end (I.ok.hd hc) st (by have:n<=i:=hg;omega) λh' eb=>⟨rfl,I.turned (t':=s.toks) (λb o hb e=>eb b o hb e) f0 f1 f3 f4 f5⟩
 self:=λ_ _ _ _ _ st h=>wpAny_pyIter_rangeiter st h
section
variable {X:Cx}{tg:Expr}{md:List Md}{P:Pt}
theorem Gp(a b:Int):Builtin.Range.rangeSize a b (-1)=if a>b then a - b else 0:=by
 unfold Builtin.Range.rangeSize;rw[if_neg (by decide)]
 split
 ·rw[show(-(-1:Int))=1 by decide,Int.ediv_one];omega
 ·rfl
theorem small_down{a b:Int}(g:-(2 ^ 62)<=a)(d:a<2 ^ 62)(f:-(2 ^ 62)<=b)(c:b<2 ^ 62):Builtin.Range.small a b (-1)=true:=by
 unfold Builtin.Range.small;rw[Gp];simp only[Builtin.Range.rangeFitsLong,zm,Bool.or_eq_true,decide_eq_true_eq,beq_iff_eq,show ¬((-1:Int)>0) by decide,if_false]
 split<;>omega
def Ux(c:TA):TI:=λσ H R=>c σ H λa d=>∃i j:Int,a=[.int i,.int j,.int (-1)]/\(-(2 ^ 62)<=i/\i<2 ^ 62/\-(2 ^ 62)<=j/\j<2 ^ 62)/\R (Itd i (i - j).toNat) d
theorem Uy{a b c:Expr}{j:TA}{p f:Pos}(m:Gl X "range")(l:X.mg "range" = none)(x:PA X [a,b,c] j)(hs:starEach [a,b,c] X.env=[(false,eval a X.env),(false,eval b X.env),(false,eval c X.env)]:=by rfl)(g:starEach [b,c] X.env=[(false,eval b X.env),(false,eval c X.env)]:=by rfl):
  PI X tg (.Call (.Name "range" p) [a,b,c] [] f) (Ux j):=by
 intro pins s σ H R I h;refine Call_ (oF I m l boot_range (PyProof.Rows.callWith_type1 (thn (x f pins s σ H _ I h) λus s1 ⟨vs,H1,I1,r1,q1⟩=>?_) (by rw[hs,g]) (by rw[g];rfl)));obtain⟨lo,d,e,⟨h1,h2,h3,h4⟩,q⟩:=q1;subst e
 cases r1 with
 |cons r rr =>
  cases rr with
  |cons r' rr =>
   cases rr with
   |cons r'' rr =>
    cases rr;obtain⟨t,rfl⟩:=r;obtain⟨u,rfl⟩:=r';obtain⟨v,rfl⟩:=r'';refine call_range_3 (by decide) ?_ (Or.inl (PyProof.noPylong_small (by omega)));refine wpAny_pyIter_range (IsRange.new ..) (small_down h1 h2 h3 h4) ?_
    have J:Inv X pins σ H1 {s1 with heap:=s1.heap.push {cls:=.type "range",data:=.fields #[.int lo t,.int d u,.int (-1) v]},toks:=s1.toks}:=I1.kept λb o e=>zl _ e
    refine⟨(s1.heap.push {cls:=.type "range",data:=.fields #[.int lo t,.int d u,.int (-1) v]}).objs.size,[(s1.heap.push {cls:=.type "range",data:=.fields #[.int lo t,.int d u,.int (-1) v]}).objs.size],_,_,H1,rfl,
     J.kept (t':=s1.toks) λb o e=>zl _ e,Uw _ lo (lo - d).toNat,?_,λb n=>?_,q⟩
    ·have B:lo+((0:Nat):Int) * (-1)=lo:=by simp
     have y:(((lo - d).toNat:Nat):Int) - ((0:Nat):Int)=Builtin.Range.rangeSize lo d (-1):=by rw[Gp];split<;>omega
     show IsRangeIter _ _ (lo+((0:Nat):Int) * (-1)) ((((lo - d).toNat:Nat):Int) - ((0:Nat):Int)) (-1);rw[B,y];exact zx _ rfl
    ·have e:b=(s1.heap.push {cls:=.type "range",data:=.fields #[.int lo t,.int d u,.int (-1) v]}).objs.size:=by simpa using n
     subst e;exact J.fpOk (zc _) (J.hok.fresh (zc _))
theorem Uz{K:Frag}{mg:Str->Option Value}{lo:Int}{n:Nat}{H F:Hp}{f:List Addr}:lD K mg P (Itd lo n) (gU lo n) H F f:=wg (λi d g e=>by
 unfold gU at e;rw[zD] at e
 by_cases a:i<n
 ·rw[List.getElem?_range a] at e;cases e;refine⟨a,λx j y=>?_⟩;obtain⟨c,rfl⟩:=y;exact⟨c,λ_ _ _=>Rp.int⟩
 ·rw[jj (by simpa using a)] at e
  cases e) λg=>by simp[gU,Itd]
def rQ(m:M (List D)):M (List D):=λρ O=>(m ρ O).bind λa d=>match a with
 | [.int i,.int j,.int c]=>if c = -1/\i<=1000000000/\-1000000000<=i/\j<=1000000000/\-1000000000<=j then .ok (gU i (i - j).toNat) d else .no
 | _=>.no
theorem cN.three{K:Frag}{H F:Hp}{a:List Addr}{j g c:Md}{vs:List V}{d e f:D}(h:cN K H F a [j,g,c] vs [d,e,f]):∃v u z,vs=[v,u,z]/\rA K j (λ_=>True) H F a v d/\rA K g (λ_=>True) H F a u e/\rA K c (λ_=>True) H F a z f:=by
 cases vs with
 |nil=>exact h.elim
 |cons v vs =>
  obtain⟨h1,h2⟩:=h;obtain⟨u,z,rfl,h3,h4⟩:=cN.two h2;exact⟨v,u,z,rfl,h1,h3,h4⟩
theorem UG{a b c:Expr}{p d:Pos}{m:M (List D)}(G:X.mg "range" = none)(J:AE X md P [.s,.s,.s] [a,b,c] m)(I:Gl X "range":=by rfl)(E:starEach [a,b,c] X.env=[(false,eval a X.env),(false,eval b X.env),(false,eval c X.env)]:=by rfl)(g:starEach [b,c] X.env=[(false,eval b X.env),(false,eval c X.env)]:=by rfl):
  VI X md P tg (.Call (.Name "range" p) [a,b,c] [] d) (rQ m):=(Uy I G J E g).imp λσ H Q q=>by
 obtain⟨ρ,O,F,Y,ds,O',r,s,e,k⟩:=q;obtain⟨es,O1,W,e⟩:=Res.bind_ok e;split at e
 ·rename_i i j c;split at e
  ·rename_i n;cases e;obtain⟨rfl,n⟩:=n;refine⟨ρ,_,F,Y,_,_,r,s,W,λvs Z F1 l L x B=>?_⟩;obtain⟨v,u,z,rfl,f,C,y⟩:=B.three;have U:=(Sv.rp f rfl).unI;have T:=(Sv.rp C rfl).unI;have R:=(Sv.rp y rfl).unI;subst U T R;exact⟨i,j,rfl,⟨by omega,by omega,by omega,by omega⟩,k _ Z F1 l L x Uz⟩
  ·cases e
 ·cases e
end
section
variable {X:Cx}{pins:List (Addr×Obj)}{σ:List (Option V)}{H:Hp}{s:Shared}{a:Addr}{xs:List (List Key×V)}{o:Obj}
theorem Inv.reword{u:HO}(I:Inv X pins σ H s)(ha:H a≠none)(hn:∀ys,H a≠some (.tup ys))(ho:∀y,H a≠some (.own y))(hb:∀ps,H a≠some (.tbl ps))(hf:∀o u,X.H₀ a≠some (.frz o u))(new:bW X.prog X.w (upd H a u) s.heap a u):Inv X pins σ (upd H a u) s where
 ok:=I.ok
 os:=I.os
 bare:=I.bare
 base:={
  keep:=I.base.keep
  slot:=I.base.slot
  free:=λb o' q n hx=>by
   have z:=I.base.free b o' q n hx;rw[aL (by intro e;have w:=z;rw[e] at w;exact ha w)];exact z
  there:=I.base.there
  tups:=λb ys q=>by
   have z:=I.base.tups b ys q;rw[aL (by intro e;have w:=z;rw[e] at w;exact hn ys w)];exact z
  frzs:=λb o' u' q=>by
   have z:=I.base.frzs b o' u' q;rw[aL (by intro e;have w:=q;rw[e] at w;exact hf o' u' w)];exact z
  tbls:=λb ps q=>by
   obtain⟨m,z⟩:=I.base.tbls b ps q
   exact⟨m,by rw[aL (by intro e;have w:=z;rw[e] at w;exact hb _ w)];exact z⟩}
 loc:=I.loc
 cell:=I.cell
 free:=by rw[aL (by intro e;have w:=I.free;rw[e] at w;exact ha w)];exact I.free
 freeC:=λx c q=>by rw[aL (by intro e;have w:=I.freeC x c q;rw[e] at w;exact ha w)];exact I.freeC x c q
 pin:=λp hp=>by
  obtain⟨h1,h2,h3,h4,h5⟩:=I.pin p hp;exact⟨h1,by rw[aL (by intro e;have w:=h2;rw[e] at w;exact ha w)];exact h2,h3,h4,h5⟩
 hok:=λb u' q=>by
  by_cases e:b=a
  ·subst e;rw[bI] at q;cases q;exact new
  ·rw[aL e] at q
   exact(I.hok b u' q).stay (λ_ _ _ z=>z) (λc z=>by rw[aL (by intro e;have w:=z;rw[e] at w;exact ho b w)];exact z) λc ys z=>by rw[aL (by intro e;have w:=z;rw[e] at w;exact hn ys w)];exact z
 len:=I.len
end
section
variable {prog:Program}{w:World}{A:Around}{E:Value->Shared->Prop}{s:Shared}
theorem UJ{d:Addr}{o:Obj}{es:Array DictEntry}{ep:Nat}{Q:Value->Shared->Prop}(hd:(d == sysModules)=false)(c:s.heap.get? d=some o)(g:o.ExactDict)(a:o.data=.dict es ep)
  (j:Q (.ref s.heap.objs.size) {s with heap:=s.heap.push {cls:=.type "dict_keyiterator",data:=.fields #[.ref d,.int 0 0,.int es.size 0,.int ep 0]}}):
  wpAny (model prog w) A (pyIter (.ref d)) Q E s:=by
 have f:s.TypeIs (.ref d) "dict":=⟨o,c,g.1⟩;refine wpAny_pyIter_slot f PySem.F.slot_dict_iter (wpAny_call_entry PySem.F.slot_dict_iter f PySem.F.entry_dict_iter ?_ (PySem.F.args_dict_iter_1 _));unfold Builtin.«dict.__iter__»;refine za ?_;unfold Builtin.Dict.dictSlotNone;refine za (wpAny_notOrdered_dict f ?_);show wpAny _ _ (pure (Value.ref d)) _ _ s;refine zb ?_;show wpAny _ _ (Builtin.Dict.showsAll d >>= _) _ _ s;unfold Builtin.Dict.showsAll;rw[if_neg (by rw[hd];exact zh)];refine za (zb ?_);refine za (wpAny_dictEntries c a ?_);refine za (wpAny_dictEpoch c a ?_);refine za (wpAny_newObj_type (zb ⟨_,rfl,"dict_keyiterator",_,⟨_,zx _ rfl,rfl⟩,PySem.F.slot_dict_keyiterator_next.lookup,?_⟩))
 simpa [rawInt] using j
theorem UL{it d:Addr}{i n ep:Nat}{od:Obj}{es:Array DictEntry}{Q:Option Value->Shared->Prop}(a:s.heap.IsKeyIter it d i n ep)(c:s.heap.get? d=some od)(f:od.data=.dict es ep)(hsz:es.size=n)(l:i<n)
  (q:∀h',h'.IsKeyIter it d (i+1) n ep->Heap.SameBut it s.heap h'->Q (some (es[i]'(by omega)).key) {s with heap:=h'}):
  wpAny (model prog w) A (pyNext (.ref it)) Q E s:=by
 obtain⟨o,j,m,hd⟩:=id a;unfold pyNext
 refine za (wpAny_attempt (wpAny_callSpecial?_slot (name:=Str.ofString "__next__") a.typeIs PySem.F.slot_dict_keyiterator_next
  (wpAny_call_entry PySem.F.slot_dict_keyiterator_next a.typeIs PySem.F.entry_dict_keyiterator_next ?_ (PySem.F.args_dict_keyiterator_next_1 _))))
 refine za (zb ?_);refine za ?_;refine za ?_
 first | refine za (wpAny_typeNameOfWhole_keyiter a.typeIs (zb ?_)) | refine za (wpAny_typeNameOf_keyiter a.typeIs (zb ?_))
 refine za (wpAny_fieldsOf j hd ?_)
 have g:Builtin.Dict_items.ownsTuple "dict_keyiterator" = false:=by decide
 simp only[g,Bool.false_eq_true,if_false];show wpAny _ _ (if(Value.ref d == Value.none)=true then _ else _) _ _ s;rw[if_neg (show ¬((Value.ref d == Value.none)=true) from zh)];refine za (zb ?_);refine za (wpAny_dictEntries c f ?_);rw[if_neg (by rw[hsz];simp)];refine za (zb ?_);refine za (wpAny_dictEpoch c f ?_);rw[if_neg (by simp)];refine zb ?_
 have hlt':i<es.size:=by rw[hsz];exact l
 simp only[show ¬((i:Int)<0) from by omega,if_false,Int.toNat_natCast,Array.getElem?_eq_getElem hlt'];refine za ?_
 first | refine za (wpAny_typeNameOfWhole_keyiter a.typeIs (zb ?_)) | refine za (wpAny_typeNameOf_keyiter a.typeIs (zb ?_))
 refine za (wpAny_isOneOf_keyiter a.typeIs ?_);show wpAny _ _ (setField (.ref it) 1 (rawInt ((i:Int)+1)) >>= _) _ _ s;refine za (wpAny_setField j hd (by simp) ?_);have hit':(s.heap.update it (Obj.mapFields (·.setIfInBounds 1 (rawInt ((i:Int)+1))))).IsKeyIter it d (i+1) n ep :=
  ⟨_,Heap.get?_update_self _ j (Obj.isFreed_of_fields (Obj.data_mapFields hd _)),(Obj.cls_mapFields ..).trans m,by rw[Obj.data_mapFields hd];simp[rawInt]⟩
 refine za (zR ?_);refine za (wpAny_isOneOf_keyiter (s:={s with heap:=s.heap.update it (Obj.mapFields (·.setIfInBounds 1 (rawInt ((i:Int)+1))))}) hit'.typeIs ?_);show wpAny _ _ (pure es[i].key) _ _ _;exact zb (zb ⟨_,rfl,zb (q _ hit' (Heap.SameBut.update ..))⟩)
theorem UT{it d:Addr}{i n ep:Nat}{od:Obj}{es:Array DictEntry}{Q:Option Value->Shared->Prop}(r:A.handled=none)(c:s.heap.IsKeyIter it d i n ep)(f:s.heap.get? d=some od)(g:od.data=.dict es ep)(hsz:es.size=n)(l:n<=i)
  (u:∀h',Heap.ExtBut it s.heap h'->Q none {s with heap:=h'}):wpAny (model prog w) A (pyNext (.ref it)) Q E s:=by
 obtain⟨o,q,x,hd⟩:=id c;unfold pyNext
 refine za (wpAny_attempt (wpAny_callSpecial?_slot (name:=Str.ofString "__next__") c.typeIs PySem.F.slot_dict_keyiterator_next
  (wpAny_call_entry PySem.F.slot_dict_keyiterator_next c.typeIs PySem.F.entry_dict_keyiterator_next ?_ (PySem.F.args_dict_keyiterator_next_1 _))))
 refine za (zb ?_);refine za ?_;refine za ?_
 first | refine za (wpAny_typeNameOfWhole_keyiter c.typeIs (zb ?_)) | refine za (wpAny_typeNameOf_keyiter c.typeIs (zb ?_))
 refine za (wpAny_fieldsOf q hd ?_)
 have j:Builtin.Dict_items.ownsTuple "dict_keyiterator" = false:=by decide
 simp only[j,Bool.false_eq_true,if_false];show wpAny _ _ (if(Value.ref d == Value.none)=true then _ else _) _ _ s;rw[if_neg (show ¬((Value.ref d == Value.none)=true) from zh)];refine za (zb ?_);refine za (wpAny_dictEntries f g ?_);rw[if_neg (by rw[hsz];simp)];refine za (zb ?_);refine za (wpAny_dictEpoch f g ?_);rw[if_neg (by simp)];refine zb ?_
 have hge':es.size<=i:=by rw[hsz];exact l
 simp only[show ¬((i:Int)<0) from by omega,if_false,Int.toNat_natCast,Array.getElem?_eq_none hge'];refine za ?_
 first | refine za (wpAny_typeNameOfWhole_keyiter c.typeIs (zb ?_)) | refine za (wpAny_typeNameOf_keyiter c.typeIs (zb ?_))
 show wpAny _ _ (setField (.ref it) 0 .none >>= _) _ _ s;refine za (wpAny_setField q hd (by simp) ?_);show wpAny _ _ (newExc (.type "StopIteration") [] >>= _) _ _ _;refine za ?_;simp only[newExc,newTuple];refine za (wpAny_newObj_type ?_ (by size_fits));refine za (m:=firstArgMember _ _) (jl (a:=Value.none) (by first | rfl | (simp only[firstArgMember];rfl)) ?_);refine wpAny_newObj_type ?_ (by size_fits);simp only[raiseNew];refine za (wpAny_handled ?_);rw[show A.in1.handled=none from r];refine za (zb (wpAny_throw ?_));refine za (wpAny_isInstance (T:="StopIteration") (b:=true) ⟨_,zx _ rfl,rfl⟩ isSubtype_stop ?_)
 exact zb (u _ (((Heap.SameBut.update ..).extBut.push _).push _))
end
theorem UV{α β:Type}{R:α->β->Prop}{l:List α}{m:List β}(h:Paired R l m):∀{i:Nat}{x:α}{y:β},l[i]?=some x->m[i]?=some y->R x y:=by
 induction h with
 |nil=>intro i x y h;cases h
 |cons a b ih =>
  intro i x y h1 h2
  cases i with
  |zero=>cases h1;cases h2;exact a
  |succ i=>exact ih h1 h2
section
variable {K:Frag}{mg:Str->Option Value}{O:aq}{H F:Hp}{as:List Addr}
theorem Gr.tupF{b:Addr}{xs:List V}(d:H b=some (.tup xs))(c:F b=none):Gr H F as H (upd F b (.tup xs)) as :=
 ⟨λa o e _ hd=>aL (λz=>by rw[z,d] at e;cases e;cases hd),λa u e=>by rw[aL (cz e c)];exact e,⟨[],by simp,λ_ h=>nomatch h⟩,λ_ _ h _ _=>h,λ_ h=>h,λ_ _ _ h=>h⟩
theorem RlO.noT{b:Addr}{xs:List V}(r:RlO K mg O H F as)(a:H b=some (.tup xs)):b∉as:=λf=>by
 obtain⟨n,d,e⟩:=List.mem_iff_getElem.mp f
 have g:n<O.length:=by rw[<-r.len];exact d
 have q:=r.ob n b O[n] (by rw[zu d,e]) (zu g)
 revert q
 cases O[n] with
 |ins c fs=>rintro⟨C,m,l,_,h2,_⟩;rw[a] at h2;cases h2
 |ml x=>rintro⟨xs,h1,_⟩;rw[a] at h1;cases h1
 |dt kvs=>rintro⟨xs,h1,_⟩;rw[a] at h1;cases h1
 |df kvs=>rintro⟨o,xs,h1,_⟩;rw[a] at h1;cases h1
 |dk kvs=>rintro⟨xs,h1,_⟩;rw[a] at h1;cases h1
 |kf kvs=>rintro⟨o,xs,h1,_⟩;rw[a] at h1;cases h1
 |xc c fs=>rintro⟨C,j,u,_,h1,_⟩;rw[a] at h1;cases h1
 |gone=>rintro⟨φ,h1⟩;rw[a] at h1;cases h1
 |dn kvs=>rintro⟨xs,h1,_⟩;rw[a] at h1;cases h1
 |nf kvs=>rintro⟨o,xs,h1,_⟩;rw[a] at h1;cases h1
theorem rR:∀ks:List Key,Rps K F as (ks.map kV) (ks.map jt)
 | []=>Rps.nil
 | .inl i::ks=>Rps.cons (show Rp K F as (.int i) (.int i) from rfl) (rR ks)
 | .inr x::ks=>Rps.cons (show Rp K F as (.str x) (.str x.cps.toList) from by
   show V.str x=V.str (S x.cps.toList)
   rw[show S x.cps.toList=x by cases x;simp[S]]) (rR ks)
theorem RlO.df{n:Nat}{a:Addr}{kvs:List (List Key×D)}(r:RlO K mg O H F as)(c:as[n]?=some a)(d:O[n]?=some (.df kvs)):∃o xs,H a=some (.frz o (.dT xs))/\DtR K F as xs kvs:=let ⟨o,xs,h1,h2,h3⟩:=r.ob n a _ c d;⟨o,xs,h1,h2,h3⟩
end
section
variable {X:Cx}{md:List Md}{P:Pt}{R:RR}
end
section
variable {K:Frag}{mg:Str->Option Value}{md:List Md}{P:Pt}{ρ:aA}{σ:St}{O:aq}{H F H' F':Hp}{as as':List Addr}
theorem fL.reH{m:Md}{v:V}{d:D}{a:Addr}{h:HO}(q:fL P K H F as m v d)(y:a∈as):fL P K (upd H a h) F as m v d:=by
 cases m with
 |v=>exact q
 |s =>
  rcases q with q | ⟨c,g,x,u,r,n,f,l,j⟩
  ·exact .inl q
  ·exact .inr ⟨c,g,x,u,r,by rw[aL (λz=>f (by rw[z];exact y))];exact n,f,l,j⟩
 |o =>
  rcases q with⟨h1,q⟩ | ⟨c,g,x,u,r,n,B,f,l,j⟩
  ·exact .inl ⟨h1,q⟩
  ·exact .inr ⟨c,g,x,u,r,by rw[aL (λz=>f (by rw[z];exact y))];exact n,B,f,l,j⟩
theorem SlO.reH{a:Addr}{h:HO}(s:SlO K md P ρ σ H F as)(f:a∈as):SlO K md P ρ σ (upd H a h) F as :=
 ⟨s.len,s.len',λc p z=>s.pd c p (by
  by_cases e:c=a
  ·rw[e,bI] at z;cases z
  ·rwa [aL e] at z),λi m d j g=>let ⟨v,q,r⟩:=s.sl i m d j g;⟨v,q,r.reH f⟩,s.inj,s.pin⟩
theorem SlO.obAt{i n:Nat}(s:SlO K md P ρ σ H F as)(e:ρ[i]?=some (some (.ob n))):∃a,as[n]?=some a:=by
 have d:i<md.length:=by rw[<-s.len'];exact(zr.mp e).1
 obtain⟨v,_,q⟩:=s.sl i _ _ (zu d) e
 have c:Rp K F as v (.ob n):=by
  revert q
  cases md[i] with
  |v=>exact λq=>q
  |s =>
   rintro(q | ⟨a,xs,ds,_,z,_⟩)
   ·exact q
   ·cases z
  |o =>
   rintro(⟨_,q⟩ | ⟨a,xs,ds,_,z,_⟩)
   ·exact q
   ·cases z
 obtain⟨a,_,f⟩:=Rp.unO c;exact⟨a,f⟩
theorem GrS.reH{a:Addr}{h:HO}{xs:List (List Key×V)}(g:GrS P H F as H' F' as')(j:a∈as)(f:H a=some (.dT xs)):GrS P H F as (upd H' a h) F' as' :=
 ⟨g.fz,g.ff,g.nw,λc o p e d hd=>by rw[aL (λz=>d (by rw[z];exact j))];exact g.fr c o p e d hd,λc e=>by
  by_cases z:c=a
  ·rw[z,bI] at e;cases e
  ·rw[aL z] at e;exact g.dm c e,λc o u e=>by rw[aL (λz=>by rw[z,f] at e;cases e)];exact g.kz c o u e⟩
end
section
variable {X:Cx}{md:List Md}{P:Pt}{R:RR}
end
section
variable {X:Cx}{md:List Md}{P:Pt}{R:RR}
end
section
variable {prog:Program}{w:World}
end
section
variable {X:Cx}{md:List Md}{P:Pt}{R:RR}
end
def m6(kvs:List (Key×D))(k:Key):Option D:=(kvs.find? λp=>decide (p.1=k)).map (·.2)
def Gq(kvs:List (Key×D))(k:Key)(d:D):List (Key×D):=
 if(kvs.any λp=>decide (p.1=k))=true then kvs.map (λp=>if p.1=k then(p.1,d) else p) else kvs++[(k,d)]
def DkR(K:Frag)(F:Hp)(a:List Addr)(xs:List (Key×V))(kvs:List (Key×D)):Prop:=xs.map (·.1)=kvs.map (·.1)/\Rps K F a (xs.map (·.2)) (kvs.map (·.2))
section
variable {K:Frag}{mg:Str->Option Value}{O:aq}{H F H' F':Hp}{as as':List Addr}
theorem DkR.len{xs:List (Key×V)}{kvs:List (Key×D)}(h:DkR K F as xs kvs):xs.length=kvs.length:=by
 have:=congrArg List.length h.1
 simpa using this
theorem DkR.un{xs:List (Key×V)}{p:Key×D}{kvs:List (Key×D)}(h:DkR K F as xs (p::kvs)):∃v r,xs=(p.1,v)::r/\Rp K F as v p.2/\DkR K F as r kvs:=by
 obtain⟨h1,h2⟩:=h
 cases xs with
 |nil=>cases h1
 |cons x r =>
  obtain⟨v,f,e,d,c⟩:=h2.un;cases e;rw[zd,zd] at h1;have a:=(List.cons.inj h1).1;refine⟨x.2,r,?_,d,(List.cons.inj h1).2,c⟩;rw[<-a]
theorem DkR.val{k:Key}:∀{kvs:List (Key×D)}{xs:List (Key×V)},DkR K F as xs kvs->(m6 kvs k=none/\cI xs k=none)\/∃d v,m6 kvs k=some d/\cI xs k=some v/\Rp K F as v d
 | [],xs,h=>by
  have:=h.len
  cases xs with
  |nil=>exact .inl ⟨rfl,rfl⟩
  |cons=>cases this
 |p::kvs,xs,h=>by
  obtain⟨v,r,rfl,h1,h2⟩:=h.un
  by_cases e:p.1=k
  ·exact .inr ⟨p.2,v,by simp[m6,List.find?_cons,e],lr e,h1⟩
  ·rw[show m6 (p::kvs) k=m6 kvs k by simp[m6,List.find?_cons,e],lu (p:=(p.1,v)) e];exact DkR.val h2
theorem DkR.any{k:Key}:∀{kvs:List (Key×D)}{xs:List (Key×V)},DkR K F as xs kvs->(xs.any λp=>decide (p.1=k))=kvs.any λp=>decide (p.1=k)
 | [],xs,h=>by
  have:=h.len
  cases xs with
  |nil=>rfl
  |cons=>cases this
 |p::kvs,xs,h=>by
  obtain⟨v,r,rfl,h1,h2⟩:=h.un;rw[List.any_cons,List.any_cons,DkR.any h2]
theorem DkR.repl{k:Key}{v:V}{d:D}(hv:Rp K F as v d):∀{kvs:List (Key×D)}{xs:List (Key×V)},DkR K F as xs kvs ->
  DkR K F as (xs.map λp=>if p.1=k then(p.1,v) else p) (kvs.map λp=>if p.1=k then(p.1,d) else p)
 | [],xs,h=>by
  have:=h.len
  cases xs with
  |nil=>exact⟨rfl,Rps.nil⟩
  |cons=>cases this
 |p::kvs,xs,h=>by
  obtain⟨u,r,rfl,h1,h2⟩:=h.un;obtain⟨c,a⟩:=DkR.repl (k:=k) hv h2
  by_cases e:p.1=k
  ·rw[zd,zd,if_pos e,if_pos e];exact⟨by rw[zd,zd,c],Rps.cons hv a⟩
  ·rw[zd,zd,if_neg e,if_neg e];exact⟨by rw[zd,zd,c],Rps.cons h1 a⟩
theorem DkR.put{xs:List (Key×V)}{kvs:List (Key×D)}(h:DkR K F as xs kvs)(k:Key){v:V}{d:D}(hv:Rp K F as v d):DkR K F as (putK xs k v) (Gq kvs k d):=by
 unfold putK Gq;rw[h.any]
 split
 ·exact h.repl hv
 ·exact⟨by rw[zI,zI,h.1];rfl,by rw[zI,zI];exact Rps.snoc h.2 hv⟩
theorem RlO.dk{n:Nat}{a:Addr}{kvs:List (Key×D)}(r:RlO K mg O H F as)(c:as[n]?=some a)(d:O[n]?=some (.dk kvs)):∃xs,H a=some (.dK xs)/\DkR K F as xs kvs:=let ⟨xs,h1,h2,h3⟩:=r.ob n a _ c d;⟨xs,h1,h2,h3⟩
end
section
variable {X:Cx}{md:List Md}{P:Pt}{R:RR}
end
section
variable {X:Cx}{md:List Md}{P:Pt}{R:RR}
end
section
variable {X:Cx}{md:List Md}{P:Pt}{R:RR}
theorem fL.int{K:Frag}{H F:Hp}{c:List Addr}{m:Md}{v:V}{a:Int}(h:fL P K H F c m v (.int a)):v=.int a:=by
 cases m with
 |v=>exact(show Rp K F c v (.int a) from h).unI
 |s =>
  rcases h with h | ⟨_,_,_,_,h,_⟩
  ·exact h.unI
  ·cases h
 |o =>
  rcases h with⟨_,h⟩ | ⟨_,_,_,_,h,_⟩
  ·exact h.unI
  ·cases h
end
end L2
namespace L2
open PySem PySem.Spec PyProof.Rows PySem.W PySem.Calls
def eU(ss:List Str)(x:Str):List Str:=if x∈ss then ss else ss++[x]
def lQ(es:Array (Int×Value)):List Str:=es.toList.map λe=>strOf e.2
def dM(prog:Program)(w:World)(h:Heap)(a:Addr)(ss:List Str)(o:Obj)(es:Array (Int×Value))(ep:Nat)(t:SetTable):Prop :=
 h.get? a=some o/\o.ExactSet/\o.data=.set es ep t/\ElemsOf (PySem.strKind prog w) es.toList/\(lQ es).Perm ss/\es.size<scanBound/\t.fits es.size=true/\(es.size=0\/t.plain=false)/\t.led = !w.params.followText "set-order"
def cZ(prog:Program)(w:World)(h:Heap)(a:Addr)(ss:List Str):Prop:=∃o c d t,dM prog w h a ss o c d t
section
variable {prog:Program}{w:World}{A:Around}{E:Value->Shared->Prop}{s:Shared}{a:Addr}{ss:List Str}
theorem cZ.at{h h':Heap}(x:cZ prog w h a ss)(k:∀o,h.get? a=some o->h'.get? a=some o):cZ prog w h' a ss :=
 let ⟨o,es,ep,t,h1,r⟩:=x;⟨o,es,ep,t,k o h1,r⟩
theorem cZ.len{h:Heap}(x:cZ prog w h a ss):ss.length<scanBound:=by
 obtain⟨o,f,g,t,h1,h2,h3,h4,d,c,_⟩:=x;rw[<-d.length_eq];unfold lQ;rw[zf];exact c
theorem UW(t:SetTable)(es:Array (Int×Value))(n:Nat)(h:t.plain=false):(relayAll t es n).2.1.plain=false:=by
 unfold relayAll
 split
 ·rename_i c order e;dsimp only
  split
  ·unfold SetTable.relaid SetTable.laid at e
   cases q:SetTable.layClean (SetTable.sizeAbove n - 1) (Array.map (λx=>x.fst) es) with
   |none=>rw[q] at e;cases e
   |some ow =>
    rw[q] at e;cases e;exact h
  ·rfl
 ·rfl
theorem U0(t:SetTable)(es:Array (Int×Value))(n:Nat):(relayAll t es n).2.1.led=t.led:=by
 unfold relayAll
 split
 ·rename_i c order e;dsimp only
  split
  ·unfold SetTable.relaid SetTable.laid at e
   cases q:SetTable.layClean (SetTable.sizeAbove n - 1) (Array.map (λx=>x.fst) es) with
   |none=>rw[q] at e;cases e
   |some ow =>
    rw[q] at e;cases e;rfl
  ·rfl
 ·rfl
theorem U3(t:SetTable)(n:Nat):(t.orStandIn n).led=t.led:=by
 unfold SetTable.orStandIn
 split<;>rfl
theorem U4(t:SetTable)(es:Array (Int×Value))(h:Int)(x:Value):(layNew t es h x).2.1.led=t.led:=by
 unfold layNew
 split
 ·exact U3 _ _
 ·rfl
theorem Gs{h:Heap}{o:Obj}{es:Array (Int×Value)}{ep:Nat}{t:SetTable}(n:h.get? a=some o)(g:o.ExactSet)(hd:o.data=.set es ep t)
  {c:Array (Int×Value)}{t':SetTable} (j:ElemsOf (PySem.strKind prog w) c.toList) (m:(lQ c).Perm ss) (r:c.size<scanBound) (q:t'.fits c.size=true) (f:t'.plain=false) (d:t'.led = !w.params.followText "set-order"):
  (h.update a (Obj.putSet c t')).get? a=some {o with data:=.set c (ep+1) t'}/\cZ prog w (h.update a (Obj.putSet c t')) a ss:=by
 have l:(h.update a (Obj.putSet c t')).get? a=some {o with data:=.set c (ep+1) t'}:=by
  have:=Heap.get?_update_self (Obj.putSet c t') n (by rw[putSet_of c t' hd];rfl)
  rw[putSet_of c t' hd] at this;exact this
 exact⟨l,_,c,ep+1,t',l,g,rfl,j,m,r,q,.inr f,d⟩
theorem Gu{g:Bool->Sem Unit}(W:∀(b:Bool) (f:Shared) (U:Unit->Shared->Prop),U () f->wpAny (model prog w) A (g b) U E f)
  {o:Obj}{es:Array (Int×Value)}{ep:Nat}{t:SetTable} (T:s.heap.get? a=some o) (G:o.ExactSet) (hd:o.data=.set es ep t)
  {c:Array (Int×Value)}{t2:SetTable} (m:ElemsOf (PySem.strKind prog w) c.toList) (C:(lQ c).Perm ss) (u:c.size<scanBound) (L:t2.fits c.size=true) (B:t2.plain=false) (l:t2.led = !w.params.followText "set-order") {d:Bool}{R:Option Bool->Shared->Prop}
  (h:∀h',Heap.SameBut a s.heap h'->cZ prog w h' a ss->R (some true) {s with heap:=h'}):
  wpAny (model prog w) A (do
    storeSet a c t2
    if(!d&&t2.tooFull)=true then do
      g (relayAll t2 c (SetTable.grown c.size)).2.2
      storeSet a (relayAll t2 c (SetTable.grown c.size)).1 (relayAll t2 c (SetTable.grown c.size)).2.1
      pure (some true)
     else pure (some true)) R E s:=by
 refine za (wpAny_storeSet_of T hd ?_ (fits_of_scanBound u));obtain⟨F,P⟩:=Gs (prog:=prog) (w:=w) T G hd m C u L B l;have j:=Heap.SameBut.update s.heap a (Obj.putSet c t2)
 split
 ·have y:=relayAll_perm t2 c (SetTable.grown c.size);have r:=relayAll_fits t2 c (SetTable.grown c.size);have n:=UW t2 c (SetTable.grown c.size) B;have q:=U0 t2 c (SetTable.grown c.size)
  generalize hRl:relayAll t2 c (SetTable.grown c.size)=X at y r n q ⊢
  obtain⟨x,Y,Q⟩:=X;dsimp only at y r n q ⊢;have I:ElemsOf (PySem.strKind prog w) x.toList:=m.perm y
  have J:x.size=c.size:=by rw[<-Array.length_toList,y.length_eq,Array.length_toList]
  have H:x.size<scanBound:=by rw[J];exact u
  refine za (W _ _ _ ?_);refine za (wpAny_storeSet_of F rfl ?_ (fits_of_scanBound H));obtain⟨_,O⟩:=Gs (prog:=prog) (w:=w) F G rfl I ((y.map _).trans C) H r n (q.trans l);exact zb (h _ (j.trans (Heap.SameBut.update _ a _)) O)
 ·exact zb (h _ j P)
theorem U5{x:Str}{tk:Tok}{Q:Bool->Shared->Prop}(hS:cZ prog w s.heap a ss)(J:ss.length+1<scanBound)
  (h:∀h' b,Heap.SameBut a s.heap h'->cZ prog w h' a (eU ss x)->Q b {s with heap:=h'}):
  wpAny (model prog w) A (setAddHashed a (.str x tk) ((PySem.strKind prog w).hash x)) Q E s:=by
 obtain⟨o,n,ep,t,T,G,hd,g,R,hb,Z,hpl,l⟩:=hS
 have B:(PySem.strKind prog w).is x (.str x tk)=true:=by
  show Value.isStrOf x (.str x tk)=true;simp[Value.isStrOf]
 have hlen:n.size=ss.length:=by rw[<-R.length_eq];unfold lQ;rw[zf,Array.length_toList]
 have hb1:n.size+1<scanBound:=by rw[hlen];exact J
 have W:(Value.str x tk).scannable=true:=rfl
 have key:∀e∈n.toList,∀y,(PySem.strKind prog w).is y e.2=true↔strOf e.2=y:=λe Y y=>by
  obtain⟨⟨k,hk,_⟩,_⟩:=g e Y;obtain⟨t',ht⟩:=Value.isStrOf_shape hk;rw[ht];show Value.isStrOf y (.str k t')=true↔k=y;simp[Value.isStrOf]
 unfold setAddHashed setAddHashedIn;refine zR (za (wpAny_setState_of T hd Z ?_));dsimp only;rw[byScan_of W hb g];simp only[↓reduceIte];unfold setAddByScan;refine za ?_;refine za (zW ?_);refine za (wpAny_setScan_of B T hd Z g ?_)
 cases hr:List.findIdx? (λe=>(PySem.strKind prog w).is x e.2) n.toList with
 |some j =>
  dsimp only;obtain⟨hj,hpj,_⟩:=List.findIdx?_eq_some_iff_getElem.mp hr;have P:x∈ss:=R.mem_iff.mp (zy.mpr ⟨n.toList[j],ji hj,(key _ (ji hj) x).mp hpj⟩);refine zb (zb ?_)
  have e:s = {s with heap:=s.heap}:=by cases s;rfl
  rw[e];exact h s.heap _ (Heap.SameBut.refl a s.heap) ⟨o,n,ep,t,T,G,hd,g,by rw[eU,if_pos P];exact R,hb,Z,hpl,l⟩
 |none =>
  dsimp only
  have P:x∉ss:=λP=>by
   obtain⟨e,Y,q⟩:=zy.mp (R.mem_iff.mpr P)
   have:=List.findIdx?_eq_none_iff.mp hr e Y
   rw[(key e Y x).mpr q] at this;exact Bool.noConfusion this
  have hgw:∀(b:Bool) {f:Shared}{U:Unit->Shared->Prop},U () f->wpAny (model prog w) A (match b with | true=>rule "set.scan.the-table-gave-way" | false=>pure ()) U E f :=
   λb f U u=>by cases b<;>first | exact zb u | exact zW u
  have c:=layNew_perm t n ((PySem.strKind prog w).hash x) (.str x tk);have d:=layNew_fits t n ((PySem.strKind prog w).hash x) (.str x tk);have r:=U4 t n ((PySem.strKind prog w).hash x) (.str x tk)
  generalize hL:layNew t n ((PySem.strKind prog w).hash x) (.str x tk)=L at c d r ⊢
  obtain⟨I,t1,O,gave⟩:=L;dsimp only at c d r ⊢;rw[Array.toList_push] at c;have C:ElemsOf (PySem.strKind prog w) I.toList:=(g.push B W).perm c
  have X:(lQ I).Perm (eU ss x):=by
   rw[eU,if_neg P];refine(c.map λe=>strOf e.2).trans ?_;rw[zI];exact R.append_right _
  have hb1':I.size<scanBound:=by rw[<-Array.length_toList,c.length_eq,zn,Array.length_toList];simpa using hb1
  refine za (hgw _ ?_)
  split
  ·refine za ?_;refine za (m:=hashByValue 8 (.str x tk)) (zb ?_);refine zb ?_;simp only[Bool.false_eq_true,↓reduceIte];refine Gu (t2:={t1 with plain:=false}) ?_ T G hd C X hb1' (SetTable.fits_plain_off d) rfl (r.trans l) ?_
   ·intro b f U u;cases b<;>first | exact zb u | exact zW u
   ·intro h' F H;dsimp only;exact zb (h h' _ F H)
  ·rename_i hnp;refine za (zb ?_);simp only[↓reduceIte];refine Gu ?_ T G hd C X hb1' d (by simpa using hnp) (r.trans l) ?_
   ·intro b f U u;cases b<;>first | exact zb u | exact zW u
   ·intro h' F H;dsimp only;exact zb (h h' _ F H)
theorem isS(x:Str)(t:Tok):(PySem.strKind prog w).is x (.str x t)=true:=by
 show Value.isStrOf x (.str x t)=true;simp[Value.isStrOf]
theorem map_getD(ns:List Str):(List.range' 0 ns.length).map (λi=>ns.getD i ⟨#[]⟩)=ns:=by
 apply List.ext_getElem
 ·simp
 ·intro i h1 h2;simp[je,h2]
theorem U6{R:Result->Shared->Prop}{I:Addr}{fp j:List Addr}{G:Array GenState->Array GenState->Prop}{n:Nat}{P:Nat->Value->Prop}{St:Nat->Shared->Prop}(W:WalksS prog w A.in1 I fp j G n P St)(S:Addr)(u:S∉fp)
  (val:Nat->Str) (x:∀i v,P i v->∃t,v=.str (val i) t) (g:n+1<scanBound):
  ∀(k i:Nat) (s:Shared) (ss:List Str),n - i=k->i<=n->St i s->ss.length<=i->cZ prog w s.heap S ss ->
   (∀c,Moved (S::j) G s c->cZ prog w c.heap S (((List.range' i (n - i)).map val).foldl eU ss)->R (.ok (.ret .none)) c) ->
   codeAny (model prog w) A (.builtin "set.update.loop" ⟨[.ref S,.ref I],[]⟩) R s:=by
 have r:S∉j:=λh=>u (W.sub _ h)
 have d:∀b∈j,b∈S::j:=λb g=>zq _ g
 intro k
 induction k with
 |zero =>
  intro i s ss U X f O H J
  have Q:i=n:=by omega
  subst Q;refine jh PyProof.Rows.F.entry_set_update_loop ?_;rw[Around.under_plainId PyProof.Rows.F.plain_set_update_loop _];show wpAny _ A.in1 (pyNext (.ref I) >>= _) _ _ s;refine za (W.done s _ _ f λc l=>?_);show wpAny _ A.in1 (ret Value.none) _ _ c;refine zb (J c (l.mono d) ?_);rw[Nat.sub_self]
  exact H.at λo e=>l.heap S _ r e
 |succ k ih =>
  intro i s ss U X f O H J
  have q:i<n:=by omega
  refine jh PyProof.Rows.F.entry_set_update_loop ?_;rw[Around.under_plainId PyProof.Rows.F.plain_set_update_loop _];show wpAny _ A.in1 (pyNext (.ref I) >>= _) _ _ s;refine za (W.item i s _ _ q f λv c Y y l=>?_);obtain⟨t,rfl⟩:=x i v Y
  have hS':cZ prog w c.heap S ss:=H.at λo e=>l.heap S _ r e
  show wpAny _ A.in1 (holding [Value.str (val i) t] (setAdd S (.str (val i) t)) >>= _) _ _ c;refine za (zR ?_);unfold setAdd;refine zR ?_;refine za ((PySem.strKind prog w).pyHash (k:=val i) (isS _ _) ?_)
  refine U5 (s:={c with toks:=c.toks+1}) hS' (by omega) λZ b m T=>?_
  refine zb ⟨plainId_quiet PyProof.Rows.F.plain_set_update_loop _,ih (i+1) _ (eU ss (val i)) (by omega) q (W.frame _ c _ _ y (Nat.le_succ _) λb g o e=>?_) ?_ T λL B C=>?_⟩
  ·rw[m.2 b (λh:b=S=>u (by rw[<-h];exact g))];exact e
  ·unfold eU
   split
   ·omega
   ·rw[zn,jd];omega
  ·refine J L (Moved.trans W.gtrans ((l.mono d).then_heap (Nat.le_succ _) λb o g e=>?_) B) ?_
   ·rw[m.2 b (λh:b=S=>g (by rw[h];exact zg))];exact e
   ·rw[show n - i=(n - (i+1))+1 by omega,List.range'_succ,zd,List.foldl_cons];exact C
theorem U7(x:Value){Q₁:Value->Shared->Prop}
  (h:Q₁ (.ref s.heap.objs.size) {s with heap:=s.heap.push {cls:=.type "set",dict:=none,data:=.set #[] 0 (.fresh 0 0 (!w.params.followText "set-order"))}}):
  codeAny (model prog w) A (.call (.builtin "set.__new__") ⟨[.type "set",x],[]⟩) (wants Q₁ E) s:=by
 refine codeAny_of_tree ?_;show wpAny _ A.in1 (do checkBuiltinCall "set.__new__" ⟨[.type "set",x],[]⟩;again (.builtin "set.__new__" ⟨[.type "set",x],[]⟩)) _ _ s;refine za (jl (PySem.F.newCall_set_1 x) (zb ⟨plainId_quiet PySem.F.plain_set_new _,jh PySem.F.entry_set_new ?_⟩));rw[Around.under_plainId PySem.F.plain_set_new _];unfold Builtin.«set.__new__» Builtin.Frozenset.newClass;have c:=sub_set_self;obtain⟨f,g,d,tk,os⟩:=s;dsimp only
 wp_walk
 refine wpAny_askSetting (zb ?_);dsimp only;simp only[newObj];refine za (wpAny_alloc (zb ?_));exact zb h
theorem Gv{h:Heap}:cZ prog w (h.push {cls:=.type "set",dict:=none,data:=.set #[] 0 (.fresh 0 0 (!w.params.followText "set-order"))}) h.objs.size []:=
 ⟨_,#[],0,_,zx _ rfl,⟨rfl,rfl,rfl⟩,rfl,λe c=>by simp at c,.nil,by decide,by rfl,.inl rfl,rfl⟩
set_option maxHeartbeats 8000000 in
theorem U8{l:Addr}{items:Array Value}{ns:List Str}{Q:Value->Shared->Prop}
  (hh:A.handled=none) (hl:s.heap.IsList l items) (P:StrsAre items.toList ns) (hb:items.size+1<scanBound)
  (h:∀(h':Heap) (tk:Nat),cZ prog w h' s.heap.objs.size (ns.foldl eU []) ->
   (∀b o,s.heap.get? b=some o->h'.get? b=some o)->Q (.ref s.heap.objs.size) {s with heap:=h',toks:=tk}):
  wpAny (model prog w) A (call (.type "set") [.ref l]) Q E s:=by
 obtain⟨c,tl,hmro⟩:=PySem.F.called_set.mro;have hmade:=PySem.F.called_set.made;have hsub:=PySem.F.called_set.sub;refine wpAny_call (codeAny_of_tree ?_);show wpAny _ _ (callAny (.type "set") _) _ _ _;refine zb ⟨Code.quiet_builtin _ (by decide +kernel),jh PySem.F.entry_type_call ?_⟩;rw[Around.under_plain (weight_type_call_type "set" [.ref l] []) rfl];have h1:=PySem.F.called_set.notType;have h2:=PySem.F.called_set.canCreate;have hct:=PySem.F.typeCall_set_1 (.ref l)
 repeat (any_goals (first | assumption | wp_step))
 generalize hO:({cls:=.type "set",dict:=none,data:=.set #[] 0 (.fresh 0 0 (!w.params.followText "set-order"))}:Obj)=O0
 refine codeAny_mono (U7 (.ref l) (E:=E) (Q₁:=λobj m=>obj=.ref s.heap.objs.size/\m = {s with heap:=s.heap.push O0}) (by rw[hO];exact⟨rfl,rfl⟩)) λr m O=>?_
 cases r with
 |error e=>exact O
 |ok fl =>
  cases fl with
  |ret obj =>
   obtain⟨rfl,rfl⟩:=O
   have hfr:cZ prog w (s.heap.push O0) s.heap.objs.size []:=by rw[<-hO];exact Gv
   have hS:(s.heap.push O0).get? s.heap.objs.size=some O0:=by rw[<-hO];exact zx _ rfl
   have L:O0.cls=.type "set":=by rw[<-hO]
   have hdat:O0.data=.set #[] 0 (.fresh 0 0 (!w.params.followText "set-order")):=by rw[<-hO]
   have hT:Shared.TypeIs {s with heap:=s.heap.push O0} (.ref s.heap.objs.size) "set":=⟨_,hS,L⟩;have hli:=PySem.F.called_set.init.lookup;have hbi:=PySem.F.called_set.init.bind (.ref s.heap.objs.size)
   repeat (any_goals (first | assumption | wp_step))
   refine codeAny_mono (codeAny_call_builtin (R:=wants (λr j=>r=.none/\∃h' tk,j = {s with heap:=h',toks:=tk} /\
     cZ prog w h' s.heap.objs.size (ns.foldl eU []) /\
     (∀b o,s.heap.get? b=some o->h'.get? b=some o)) E) PySem.F.called_set.init.plain PySem.F.entry_set_init (check_set_init_1 hT ?_)) λH j d=>?_
   ·subst hO;obtain⟨ol,u,G,nl,C⟩:=hl;obtain⟨ocls,q,odata,g⟩:=ol;simp only at G C;subst G;subst C;have hol':(s.heap.push {cls:=.type "set",dict:=none,data:=.set #[] 0 (.fresh 0 0 (!w.params.followText "set-order"))}).get? l=some {cls:=.type "list",dict:=q,data:=.seq items nl,slots:=g}:=zl _ u;have hsls:=PySem.F.sub_list_set;have hslf:=PySem.F.sub_list_frozenset
    have hne:(Value.type "list" == Value.type "dict")=false:=by decide
    have B:(s.heap.push {cls:=.type "set",dict:=none,data:=.set #[] 0 (.fresh 0 0 (!w.params.followText "set-order"))}).IsList l items:=⟨_,hol',rfl,nl,rfl⟩;unfold Builtin.«set.__init__» noKeywords Builtin.Frozenset.updateFrom
    generalize hPI:pyIter=PI
    wp_walk
    subst hPI;refine wpAny_pyIter_list B ?_;refine za (wpAny_runValue ?_);have y:l<s.heap.objs.size:=zk u
    have Y:A.in1.in1.in1.handled=none:=by simp[hh]
    have J:l≠(s.heap.push {cls:=.type "set",dict:=none,data:=.set #[] 0 (.fresh 0 0 (!w.params.followText "set-order"))}).objs.size:=by
     rw[Heap.size_push];exact zo (jf y)
    have hSf:s.heap.objs.size∉[(s.heap.push {cls:=.type "set",dict:=none,data:=.set #[] 0 (.fresh 0 0 (!w.params.followText "set-order"))}).objs.size,l]:=by
     rw[Heap.size_push];simp only[zp,zw,List.not_mem_nil,or_false,not_or];exact⟨zo (zZ _),Nat.ne_of_gt y⟩
    have W:ns.length=items.size:=by rw[<-P.strs,zf,Array.length_toList]
    have I:∀(i:Nat) (v:Value),items[i]?=some v->∃t,v=.str ((λi=>ns.getD i ⟨#[]⟩) i) t:=λi v hv=>by
     have hv':items.toList[i]?=some v:=by rw[Array.getElem?_toList];exact hv
     obtain⟨x,t,rfl⟩:=P.all v (zJ hv');refine⟨t,?_⟩
     have n:(items.toList.map strOf)[i]?=some x:=by rw[zD,hv'];rfl
     rw[P.strs] at n;show Value.str x t=Value.str (ns.getD i ⟨#[]⟩) t;rw[je,n];rfl
    refine U6 ((Walks.list Y _ l J items).toS) s.heap.objs.size
     hSf (λi=>ns.getD i ⟨#[]⟩) I hb (items.size - 0) 0 _ [] (by omega) (Nat.zero_le _)
     ⟨⟨_,zx _ rfl,rfl,rfl⟩,(B.push _)⟩ (zc _) (Gv.at λo e=>zl _ e) ?hR
    intro s' n f;rw[Nat.sub_zero,<-W] at f;rw[map_getD] at f;obtain⟨h',g',d',T,U⟩:=s';have eg:g'=s.gens:=n.gens;have ed:d'=s.drawn:=n.drawn;have eo:U=s.os:=n.os;subst eg;subst ed;subst eo;show wpAny _ _ _ _ _ _;refine zb ?_;show wpAny _ _ (ret Value.none) _ _ _;refine zb ⟨rfl,h',T,rfl,f,λb o e=>?_⟩;have hb':=zk e;have hb1:b≠s.heap.objs.size:=zo hb'
    have Z:b≠(s.heap.push {cls:=.type "set",dict:=none,data:=.set #[] 0 (.fresh 0 0 (!w.params.followText "set-order"))}).objs.size:=by
     rw[Heap.size_push];exact zo (jf hb')
    exact n.heap b o (by simp only[zp,zw,List.not_mem_nil,or_false,not_or];exact⟨hb1,Z⟩) (zl _ (zl _ e))
   ·cases H with
    |error e=>exact d
    |ok fl₂ =>
     cases fl₂ with
     |ret r =>
      obtain⟨rfl,h',tk,rfl,f,X⟩:=d
      repeat (any_goals (first | assumption | wp_step))
      exact h _ _ f X
     | _=>exact d.elim
  | _=>exact O.elim
end
theorem gW:Slot "set_iterator" "__next__" "set_iterator.__next__" :=
 .of (owner:="set_iterator") (n:="__next__") (by rw[typeLookup_type,builtinLookup_eq_fast];kernel_rfl) (by decide +kernel) (by decide +kernel) (by decide +kernel)
  (by first | exact .inl (by decide +kernel) | exact .inr (by decide +kernel)) (by rw[isSubtype_type];kernel_rfl)
theorem rT:entryFor table "set_iterator.__next__" = some Builtin.«set_iterator.__next__»:=entryFor_of_tree (by kernel_rfl)
theorem rY(a:Value):argsOk "set_iterator.__next__" ⟨[a],[]⟩:=by unfold argsOk;kernel_rfl
theorem Gw:Slot "set_iterator" "__iter__" "set_iterator.__iter__" :=
 .of (owner:="set_iterator") (n:="__iter__") (by rw[typeLookup_type,builtinLookup_eq_fast];kernel_rfl) (by decide +kernel) (by decide +kernel) (by decide +kernel)
  (by first | exact .inl (by decide +kernel) | exact .inr (by decide +kernel)) (by rw[isSubtype_type];kernel_rfl)
theorem U9:entryFor table "set_iterator.__iter__" = some Builtin.«dict_keyiterator.__iter__» :=
 entryFor_alias (id':="dict_keyiterator.__iter__") (by kernel_rfl) rfl (by decide +kernel) (by kernel_rfl)
theorem Va(a:Value):argsOk "set_iterator.__iter__" ⟨[a],[]⟩:=by unfold argsOk;kernel_rfl
theorem Vb:entryFor table "set.__iter__" = some Builtin.«frozenset.__iter__» :=
 entryFor_alias (id':="frozenset.__iter__") (by kernel_rfl) rfl (by decide +kernel) (by kernel_rfl)
def ItS(h:Heap)(I a:Addr)(first:Value)(i n ep:Nat):Prop:=∃o,h.get? I=some o/\o.cls=.type "set_iterator"/\o.data=.fields #[first,.int i 0,.ref a,.int n 0,.int ep 0]
section
variable {prog:Program}{w:World}{A:Around}{E:Value->Shared->Prop}{s:Shared}{a:Addr}{ss:List Str}{o:Obj}{es:Array (Int×Value)}{ep:Nat}{t:SetTable}
theorem ItS.typeIs{I:Addr}{first:Value}{i n:Nat}(h:ItS s.heap I a first i n ep):s.TypeIs (.ref I) "set_iterator":=let ⟨o,h1,h2,_⟩:=h;⟨o,h1,h2⟩
theorem Vc{M:Model}{c:Source}{n:Nat}{Q:Nat->Shared->Prop}(f:n≠0)(h:∀i d,i<n->Q i {s with drawn:=d}):wpAny M A (choose c n) Q E s :=
 λΓ p g=>⟨f,h _ _ (Nat.mod_lt _ (Nat.pos_of_ne_zero f))⟩
theorem wy{α:Type}:∀(l:List α) (i:Nat) (h:i<l.length),(l[i]::l.eraseIdx i).Perm l
 |x::xs,0,_=>.refl _
 |x::xs,i+1,h=>(List.Perm.swap _ _ _).trans ((wy xs i (Nat.lt_of_succ_lt_succ h)).cons x)
theorem Gx{M:Model}{α:Type}:∀(n:Nat) (xs:List α) (s:Shared) (Q:List α->Shared->Prop),xs.length=n->(∀ys d,ys.Perm xs->Q ys {s with drawn:=d})->wpAny M A (drawOrder n xs) Q E s
 | 0,xs,s,Q,hl,h=>by
  rw[List.length_eq_zero_iff.mp hl] at h;exact zb (h [] s.drawn .nil)
 |n+1,[],s,Q,hl,h=>by cases hl
 |n+1,x::xs,s,Q,hl,h=>by
  unfold drawOrder;refine za (Vc (by simp) λi d c=>?_);rw[zu c];refine za (Gx n _ _ _ ?_ λys g f=>?_)
  ·rw[List.length_eraseIdx_of_lt c];omega
  ·exact zb (h _ g ((f.cons _).trans (wy _ _ c)))
theorem Vd{Q:Value->Shared->Prop}(x:dM prog w s.heap a ss o es ep t)
  (h1:(w.params.followText "set-order" = true\/es.size<=1)->Q (.ref s.heap.objs.size) {s with heap:=s.heap.push {cls:=.type "set_iterator",data:=.fields #[.int 0 0,.int 0 0,.ref a,.int es.size 0,.int ep 0]}})
  (h2:w.params.followText "set-order" = false->∀(ps:List Nat) d,ps.Perm (List.range es.size)->Q (.ref (s.heap.objs.size+1)) {s with drawn:=d,heap:=(s.heap.push {cls:=.type "tuple",data:=.seq (ps.map λi=>Value.int (i:Nat) 0).toArray}).push {cls:=.type "set_iterator",data:=.fields #[.ref s.heap.objs.size,.int 0 0,.ref a,.int es.size 0,.int ep 0]}}):
  wpAny (model prog w) A (pyIter (.ref a)) Q E s:=by
 obtain⟨j,n,hd,B,C,y,m,f,u⟩:=x;have r:s.TypeIs (.ref a) "set":=⟨o,j,n.1⟩;refine wpAny_pyIter_slot r PySem.F.slot_set_iter (wpAny_call_entry PySem.F.slot_set_iter r Vb ?_ (PySem.F.args_set_iter_1 _));unfold Builtin.«frozenset.__iter__» Builtin.Frozenset.slot0 slotArgs;simp only[List.isEmpty_nil,Bool.not_true,Bool.false_eq_true,↓reduceIte,bind_assoc,zT,bne_self_eq_false];unfold Builtin.Frozenset.addrOf Builtin.Frozenset.sizeOf;refine za (zb ?_);dsimp only;refine za (zb ?_);refine za (za (wpAny_setEntries_of j hd m (zb ?_)));unfold setDrawn setsByText;refine za (za (wpAny_setState_of j hd m ?_))
 refine za (za (wpAny_askSetting (zb ?_)));refine zb ?_;refine wpAny_ite_split (λc=>?_) (λc=>?_)
 ·change (!w.params.followText "set-order" && (!t.plain&&decide (es.size>1)))=true at c
  have g:w.params.followText "set-order" = false:=by
   cases h:w.params.followText "set-order" with
   |false=>rfl
   |true=>rw[h] at c;cases c
  refine za (Gx _ _ _ _ List.length_range λps d l=>?_)
  have f:ps.length=es.size:=by rw[l.length_eq,List.length_range]
  refine za (wpAny_newTuple ?_ (by rw[zf,f,sizeLine_eq];unfold scanBound at y;omega));have ho':(s.heap.push {cls:=.type "tuple",data:=.seq (ps.map λi=>rawInt (i:Nat)).toArray}).get? a=some o:=zl _ j;refine za (wpAny_setEpoch_of (s:={s with drawn:=d,heap:=s.heap.push {cls:=.type "tuple",data:=.seq (ps.map λi=>rawInt (i:Nat)).toArray}}) ho' hd m ?_);unfold newFields;refine za (wpAny_newObj_type (zb ⟨_,rfl,"set_iterator",_,⟨_,zx _ rfl,rfl⟩,gW.lookup,?_⟩))
  have:=h2 g ps d l
  rw[Heap.size_push];exact this
 ·change ¬(!w.params.followText "set-order" && (!t.plain&&decide (es.size>1)))=true at c
  have g:w.params.followText "set-order" = true\/es.size<=1:=by
   cases h:w.params.followText "set-order" with
   |true=>exact .inl rfl
   |false =>
    refine .inr ?_;rw[h] at c
    rcases f with q | q
    ·omega
    ·rw[q] at c;simpa using c
  refine za (zb ?_);refine za (wpAny_setEpoch_of j hd m ?_);unfold newFields;exact za (wpAny_newObj_type (zb ⟨_,rfl,"set_iterator",_,⟨_,zx _ rfl,rfl⟩,gW.lookup,h1 g⟩))
theorem rZ{h:Heap}{I:Addr}{o:Obj}{vs:Array Value}{i:Nat}{x:Value}(d:h.get? I=some o)(hd:o.data=.fields vs):∃c,(h.update I (Obj.mapFields (·.setIfInBounds i x))).get? I=some c/\c.cls=o.cls/\c.data=.fields (vs.setIfInBounds i x):=
 ⟨_,Heap.get?_update_self _ d (Obj.isFreed_of_fields (Obj.data_mapFields hd _)),Obj.cls_mapFields ..,by rw[Obj.data_mapFields hd]⟩
theorem Gy{I:Addr}{sl:Int}{nx i n:Nat}{v:Value}{Q:Option Value->Shared->Prop}(c:ItS s.heap I a (.int sl 0) i n ep)(x:dM prog w s.heap a ss o es ep t)(u:es.size=n)
  (hs:∀(O:Around) (l:Option (Value×Nat)->Shared->Prop) (L:Value->Shared->Prop),l (some (v,nx)) s->wpAny (model prog w) O (setNext a sl.toNat i ep) l L s)
  (C:∀h',ItS h' I a (.int nx 0) (i+1) n ep->Heap.SameBut I s.heap h'->Q (some v) {s with heap:=h'}):wpAny (model prog w) A (pyNext (.ref I)) Q E s:=by
 obtain⟨U,f,B,d⟩:=id c;obtain⟨r,R,hd,T,X,Y,y,P,m⟩:=x;unfold pyNext
 refine za (wpAny_attempt (wpAny_callSpecial?_slot (name:=Str.ofString "__next__") c.typeIs gW
  (wpAny_call_entry gW c.typeIs rT ?_ (rY _))))
 unfold Builtin.«set_iterator.__next__» slotArgs;simp only[List.isEmpty_nil,Bool.not_true,Bool.false_eq_true,↓reduceIte,bind_assoc,zT,bne_self_eq_false];refine za (zb ?_);dsimp only;refine za (wpAny_fieldsOf f d ?_);dsimp only;refine za (wpAny_setEntries_of r hd y ?_);rw[if_neg (by rw[u];simp)];refine za (hs _ _ _ ?_);dsimp only;refine za (wpAny_setField f d (by simp) ?_);obtain⟨W,g,J,j⟩:=rZ (i:=0) (x:=rawInt (nx:Nat)) f d;refine za (wpAny_setField (s:={s with heap:=s.heap.update I (Obj.mapFields (·.setIfInBounds 0 (rawInt (nx:Nat))))}) g j (by simp) ?_);obtain⟨q,F,H,G⟩:=rZ (i:=1) (x:=rawInt ((i:Int)+1)) g j
 refine zb ⟨_,rfl,zb (C _ ⟨q,F,H.trans (J.trans B),by rw[G];simp[rawInt]⟩ ((Heap.SameBut.update ..).trans (Heap.SameBut.update ..)))⟩
theorem Gz{I:Addr}{sl:Int}{i n:Nat}{Q:Option Value->Shared->Prop}(r:A.handled=none)(c:ItS s.heap I a (.int sl 0) i n ep)(x:dM prog w s.heap a ss o es ep t)(q:es.size=n)
  (hs:∀(C:Around) (g:Option (Value×Nat)->Shared->Prop) (B:Value->Shared->Prop),g none s->wpAny (model prog w) C (setNext a sl.toNat i ep) g B s)
  (y:∀h',Heap.ExtBut I s.heap h'->Q none {s with heap:=h'}):wpAny (model prog w) A (pyNext (.ref I)) Q E s:=by
 obtain⟨J,f,O,d⟩:=id c;obtain⟨l,G,hd,H,L,P,u,F,j⟩:=x;unfold pyNext
 refine za (wpAny_attempt (wpAny_callSpecial?_slot (name:=Str.ofString "__next__") c.typeIs gW
  (wpAny_call_entry gW c.typeIs rT ?_ (rY _))))
 unfold Builtin.«set_iterator.__next__» slotArgs;simp only[List.isEmpty_nil,Bool.not_true,Bool.false_eq_true,↓reduceIte,bind_assoc,zT,bne_self_eq_false];refine za (zb ?_);dsimp only;refine za (wpAny_fieldsOf f d ?_);dsimp only;refine za (wpAny_setEntries_of l hd u ?_);rw[if_neg (by rw[q];simp)];refine za (hs _ _ _ ?_);dsimp only;refine za (wpAny_setField f d (by simp) ?_);refine za ?_;simp only[newExc,newTuple];refine za (wpAny_newObj_type ?_ (by size_fits));refine za (m:=firstArgMember _ _) (jl (a:=Value.none) (by first | rfl | (simp only[firstArgMember];rfl)) ?_);refine wpAny_newObj_type ?_ (by size_fits)
 simp only[raiseNew];refine za (wpAny_handled ?_);rw[show A.in1.handled=none from r];refine za (zb (wpAny_throw ?_));refine za (wpAny_isInstance (T:="StopIteration") (b:=true) ⟨_,zx _ rfl,rfl⟩ isSubtype_stop ?_);exact zb (y _ (((Heap.SameBut.update ..).extBut.push _).push _))
theorem Ve{I T:Addr}{p i n:Nat}{v:Value}{hs:Int}{oT:Obj}{vs:Array Value}{r:Nat}{Q:Option Value->Shared->Prop}(c:ItS s.heap I a (.ref T) i n ep)(x:dM prog w s.heap a ss o es ep t)(u:es.size=n)
  (C:s.heap.get? T=some oT) (g:oT.data=.seq vs r) (hv:vs[i]?=some (.int (p:Nat) 0)) (y:es[p]?=some (hs,v))
  (F:∀h',ItS h' I a (.ref T) (i+1) n ep->Heap.SameBut I s.heap h'->Q (some v) {s with heap:=h'}):wpAny (model prog w) A (pyNext (.ref I)) Q E s:=by
 obtain⟨R,f,B,d⟩:=id c;obtain⟨j,O,hd,P,U,W,l,L,m⟩:=x;unfold pyNext
 refine za (wpAny_attempt (wpAny_callSpecial?_slot (name:=Str.ofString "__next__") c.typeIs gW
  (wpAny_call_entry gW c.typeIs rT ?_ (rY _))))
 unfold Builtin.«set_iterator.__next__» slotArgs;simp only[List.isEmpty_nil,Bool.not_true,Bool.false_eq_true,↓reduceIte,bind_assoc,zT,bne_self_eq_false];refine za (zb ?_);dsimp only;refine za (wpAny_fieldsOf f d ?_);dsimp only;refine za (wpAny_setEntries_of j hd l ?_);rw[if_neg (by rw[u];simp)];refine za (wpAny_seqItems C g ?_);dsimp only;rw[show(i:Int).toNat=i from rfl,hv];dsimp only;unfold setNextDrawn;refine za (za (wpAny_setState_of j hd l ?_));dsimp only;rw[if_neg (by simp)];rw[show((p:Nat):Int).toNat=p from rfl,y];refine za (zb ?_);refine zb ?_;refine za (wpAny_setField f d (by simp) ?_)
 obtain⟨q,G,J,H⟩:=rZ (i:=1) (x:=rawInt ((i:Int)+1)) f d;exact zb ⟨_,rfl,zb (F _ ⟨q,G,J.trans B,by rw[H];simp[rawInt]⟩ (Heap.SameBut.update ..))⟩
theorem Vf{I T:Addr}{i n:Nat}{oT:Obj}{vs:Array Value}{l:Nat}{Q:Option Value->Shared->Prop}(u:A.handled=none)(c:ItS s.heap I a (.ref T) i n ep)(x:dM prog w s.heap a ss o es ep t)(r:es.size=n)
  (B:s.heap.get? T=some oT) (g:oT.data=.seq vs l) (hv:vs[i]?=none)
  (C:∀h',Heap.ExtBut I s.heap h'->Q none {s with heap:=h'}):wpAny (model prog w) A (pyNext (.ref I)) Q E s:=by
 obtain⟨O,f,U,d⟩:=id c;obtain⟨q,J,hd,L,R,W,y,H,j⟩:=x;unfold pyNext
 refine za (wpAny_attempt (wpAny_callSpecial?_slot (name:=Str.ofString "__next__") c.typeIs gW
  (wpAny_call_entry gW c.typeIs rT ?_ (rY _))))
 unfold Builtin.«set_iterator.__next__» slotArgs;simp only[List.isEmpty_nil,Bool.not_true,Bool.false_eq_true,↓reduceIte,bind_assoc,zT,bne_self_eq_false];refine za (zb ?_);dsimp only;refine za (wpAny_fieldsOf f d ?_);dsimp only;refine za (wpAny_setEntries_of q hd y ?_);rw[if_neg (by rw[r];simp)];refine za (wpAny_seqItems B g ?_);dsimp only;rw[show(i:Int).toNat=i from rfl,hv];dsimp only;refine za (wpAny_setField f d (by simp) ?_);obtain⟨P,F,X,G⟩:=rZ (i:=0) (x:=rawInt 0) f d;refine za (wpAny_setField (s:={s with heap:=s.heap.update I (Obj.mapFields (·.setIfInBounds 0 (rawInt 0)))}) F G (by simp) ?_)
 refine za ?_;simp only[newExc,newTuple];refine za (wpAny_newObj_type ?_ (by size_fits));refine za (m:=firstArgMember _ _) (jl (a:=Value.none) (by first | rfl | (simp only[firstArgMember];rfl)) ?_);refine wpAny_newObj_type ?_ (by size_fits);simp only[raiseNew];refine za (wpAny_handled ?_);rw[show A.in1.handled=none from u];refine za (zb (wpAny_throw ?_));refine za (wpAny_isInstance (T:="StopIteration") (b:=true) ⟨_,zx _ rfl,rfl⟩ isSubtype_stop ?_);exact zb (C _ ((((Heap.SameBut.update ..).trans (Heap.SameBut.update ..)).extBut.push _).push _))
theorem wz{I:Addr}{first:Value}{i n:Nat}{Q:Value->Shared->Prop}(c:ItS s.heap I a first i n ep)(h:Q (.ref I) s):wpAny (model prog w) A (pyIter (.ref I)) Q E s:=by
 refine wpAny_pyIter_slot c.typeIs Gw (wpAny_call_entry Gw c.typeIs U9 ?_ (Va _));unfold Builtin.«dict_keyiterator.__iter__»;refine za (m:=slotArgs "__iter__" 0 _) (zb ?_);exact zb ⟨_,rfl,"set_iterator",_,c.typeIs,gW.lookup,h⟩
theorem GC{i sl:Nat}{m:Around}{g:Option (Value×Nat)->Shared->Prop}{l:Value->Shared->Prop}(x:dM prog w s.heap a ss o es ep t)(c:w.params.followText "set-order" = true)
  (h:g (((pickOrder (w.params.setOrder a ep) es)[i]?).map λe=>(e.2,sl)) s):wpAny (model prog w) m (setNext a sl i ep) g l s:=by
 obtain⟨d,q,hd,r,u,y,f,n,j⟩:=x;unfold setNext setsByText;refine za (wpAny_setState_of d hd f ?_);dsimp only;refine za (za (wpAny_askSetting (zb ?_)));rw[if_pos (show(⟨(model prog w).prog,(model prog w).w.params⟩:Setting).params.followText "set-order" = true from c)];rw[if_neg (by simp)];unfold setWalk setsByText;refine za (za (wpAny_setState_of d hd f ?_));dsimp only;refine za (za (wpAny_askSetting (zb ?_)));rw[if_pos (show(⟨(model prog w).prog,(model prog w).w.params⟩:Setting).params.followText "set-order" = true from c)];exact za (wpAny_askSetting (zb (zb h)))
theorem GD{sl:Nat}{m:Around}{i:Nat}{l:Option (Value×Nat)->Shared->Prop}{r:Value->Shared->Prop}(x:dM prog w s.heap a ss o es ep t)(c:w.params.followText "set-order" = false)(h1:es.size<=1)
  (h:l (match es[SetTable.below t.place sl]?,t.place[SetTable.below t.place sl]? with | some (_,x),some j=>some (x,j+1) | _,_=>none) s):wpAny (model prog w) m (setNext a sl i ep) l r s:=by
 obtain⟨n,y,hd,B,C,F,q,u,d⟩:=x
 have g:t.led=true:=by rw[d,c];rfl
 unfold setNext setsByText;refine za (wpAny_setState_of n hd q ?_);dsimp only;refine za (za (wpAny_askSetting (zb ?_)));rw[if_neg (show ¬(⟨(model prog w).prog,(model prog w).w.params⟩:Setting).params.followText "set-order" = true from λz=>by have:=c.symm.trans z;cases this)];refine wpAny_ite_split (λf=>?_) (λf=>?_)
 ·change (!t.plain&&decide (es.size>1))=true at f
  rw[zm,decide_eq_true_eq] at f;omega
 ·refine za ?_;show wpAny (model prog w) m (if(!t.led && !es.isEmpty)=true then unsupported "set:maker-not-led" else pure ()) _ _ _;rw[if_neg (by rw[g];simp)];refine zb ?_;exact zb h
theorem GF{α:Type}(next:Nat->Nat):∀(fuel k:Nat) (left:List α) (out:Array α),left.length=fuel->(pickOrder.go next fuel k left out).toList.Perm (out.toList++left)
 | 0,k,left,out,h=>by
  rw[List.length_eq_zero_iff.mp h];unfold pickOrder.go;simp
 |fuel+1,k,left,out,h=>by
  unfold pickOrder.go;have c:next k % left.length<left.length:=Nat.mod_lt _ (by omega);rw[zu c];dsimp only;refine(GF next fuel (k+1) _ _ (by rw[List.length_eraseIdx_of_lt c];omega)).trans ?_;rw[Array.toList_push,zE];exact List.Perm.append_left _ (wy left _ c)
theorem pK{α:Type}(next:Nat->Nat)(xs:Array α):(pickOrder next xs).toList.Perm xs.toList:=by
 have:=GF next xs.size 0 xs.toList #[] (Array.length_toList ..)
 unfold pickOrder;simpa using this
theorem map_range{α:Type}(xs:Array α)(ps:List Nat)(h:ps.Perm (List.range xs.size)):∃ys:List α,ys.Perm xs.toList/\ps.length=ys.length/\∀(i p:Nat),ps[i]?=some p->xs[p]?=ys[i]?:=by
 have d:∀p∈ps,p<xs.size:=λp j=>List.mem_range.mp (h.mem_iff.mp j)
 refine⟨ps.filterMap λp=>xs[p]?,?_,?_,?_⟩
 ·refine(h.filterMap _).trans ?_
  have:(List.range xs.size).filterMap (λp=>xs[p]?)=xs.toList:=by
   have e:∀l:List α,(List.range l.length).filterMap (λp=>l[p]?)=l:=λl=>by
    induction l with
    |nil=>rfl
    |cons x l ih =>
     rw[zv,List.range_succ_eq_map,List.filterMap_cons,List.filterMap_map];simp only[List.getElem?_cons_zero];congr 1
   have:=e xs.toList
   simpa using this
  rw[this]
 ·have e:∀l:List Nat,(∀p∈l,p<xs.size)->l.length=(l.filterMap λp=>xs[p]?).length:=λl=>by
   induction l with
   |nil=>intro _;rfl
   |cons p l ih =>
    intro c;rw[List.filterMap_cons,Array.getElem?_eq_getElem (c p zg)];dsimp only;rw[zv,zv,<-ih λq g=>c q (zq _ g)]
  exact e ps d
 ·have e:∀(l:List Nat),(∀p∈l,p<xs.size)->∀(i p:Nat),l[i]?=some p->xs[p]?=(l.filterMap λp=>xs[p]?)[i]?:=λl=>by
   induction l with
   |nil=>intro _ i p f;cases f
   |cons q l ih =>
    intro c i p f;rw[List.filterMap_cons,Array.getElem?_eq_getElem (c q zg)];dsimp only
    cases i with
    |zero =>
     cases f;rw[Array.getElem?_eq_getElem (c q zg)];rfl
    |succ i=>exact ih (λq g=>c q (zq _ g)) i p f
  exact e ps d
end
def PSt(xs:List Str)(i:Nat)(v:Value):Prop:=∃x t,xs[i]?=some x/\v=.str x t
section
variable {prog:Program}{w:World}{A:Around}{E:Value->Shared->Prop}{s:Shared}{a:Addr}{ss:List Str}{o:Obj}{es:Array (Int×Value)}{ep:Nat}{t:SetTable}
theorem ItS.at{h h':Heap}{I:Addr}{first:Value}{i n:Nat}(x:ItS h I a first i n ep)(e:∀o,h.get? I=some o->h'.get? I=some o):ItS h' I a first i n ep:=let ⟨o,ho,r⟩:=x;⟨o,e _ ho,r⟩
theorem dM.at{h h':Heap}(x:dM prog w h a ss o es ep t)(e:∀o,h.get? a=some o->h'.get? a=some o):dM prog w h' a ss o es ep t:=⟨e _ x.1,x.2⟩
theorem wA{I:Addr}{h':Heap}(e:Heap.SameBut I s.heap h'):Moved [I] Eq s {s with heap:=h'}:=⟨λb o c q=>(e.2 b λz=>c (by rw[z];exact zw.mpr rfl)).trans q,rfl,rfl,rfl,zc _⟩
theorem wB{I:Addr}{h':Heap}(e:Heap.ExtBut I s.heap h'):Moved [I] Eq s {s with heap:=h'}:=⟨λb o c q=>e b o (λz=>c (by rw[z];exact zw.mpr rfl)) q,rfl,rfl,rfl,zc _⟩
theorem wC{x:dM prog w s.heap a ss o es ep t}{l:List (Int×Value)}(g:l.Perm es.toList){i:Nat}{e:Int×Value}(d:l[i]?=some e):PSt (l.map λe=>strOf e.2) i e.2:=by
 obtain⟨⟨k,j,_⟩,_⟩:=x.2.2.2.1 e (g.mem_iff.mp (zJ d));obtain⟨f,c⟩:=Value.isStrOf_shape j;exact⟨k,f,by rw[zD,d,Option.map_some,c];rfl,c⟩
theorem Vg{I:Addr}(hh:A.handled=none)(hne:a≠I)(hft:w.params.followText "set-order" = true):
  WalksS prog w A I [I,a] [I] Eq es.size (PSt ((pickOrder (w.params.setOrder a ep) es).toList.map λe=>strOf e.2)) (λi s=>ItS s.heap I a (.int 0 0) i es.size ep/\dM prog w s.heap a ss o es ep t) where
 sub:=by simp
 grefl:=λ_=>rfl
 gtrans:=λ_ _ _ h1 h2=>h1.trans h2
 frame:=λi s h' tk st _ k=>⟨st.1.at λo e=>k I (by simp) o e,st.2.at λo e=>k a (by simp) o e⟩
 item:=λi s Q E hi st hQ=>by
  have hsz:(pickOrder (w.params.setOrder a ep) es).size=es.size:=by rw[<-Array.length_toList,(pK _ es).length_eq,Array.length_toList]
  have he:(pickOrder (w.params.setOrder a ep) es)[i]?=some ((pickOrder (w.params.setOrder a ep) es)[i]'(by omega)):=Array.getElem?_eq_getElem (by omega)
  refine Gy (nx:=0) st.1 st.2 rfl (λA' Q' E' q=>GC st.2 hft (by rw[he];exact q)) λh' it' sb=>hQ _ _ ?_ ⟨it',st.2.at λo e=>(sb.2 a hne).trans e⟩ (wA sb)
  exact wC (x:=st.2) (pK _ es) (by rw[Array.getElem?_toList];exact he)
 done:=λs Q E st hQ=>by
  have hsz:(pickOrder (w.params.setOrder a ep) es).size=es.size:=by rw[<-Array.length_toList,(pK _ es).length_eq,Array.length_toList]
  have he:(pickOrder (w.params.setOrder a ep) es)[es.size]?=none:=Array.getElem?_eq_none (by omega)
  exact Gz hh st.1 st.2 rfl (λA' Q' E' q=>GC st.2 hft (by rw[he];exact q)) λh' e=>hQ _ (wB e)
 self:=λi s Q E st h=>wz st.1 h
theorem GJ(j k:Nat):SetTable.below #[j] k=if j<k then 1 else 0:=by
 unfold SetTable.below;show SetTable.below.go #[j] k 1 0 1=_;unfold SetTable.below.go;simp only[Nat.lt_one_iff,↓reduceIte];show(if(#[j]:Array Nat).getD 0 k<k then SetTable.below.go #[j] k 0 1 1 else SetTable.below.go #[j] k 0 0 0)=_;show(if j<k then SetTable.below.go #[j] k 0 1 1 else SetTable.below.go #[j] k 0 0 0)=_;unfold SetTable.below.go;rfl
theorem Vh{I:Addr}{j:Nat}{e:Int×Value}(hh:A.handled=none)(hne:a≠I)(hft:w.params.followText "set-order" = false)(hes:es = #[e])(hj:t.place = #[j]):
  WalksS prog w A I [I,a] [I] Eq 1 (PSt (es.toList.map λe=>strOf e.2)) (λi s=>ItS s.heap I a (.int (if i=0 then 0 else((j+1:Nat):Int)) 0) i 1 ep/\dM prog w s.heap a ss o es ep t) where
 sub:=by simp
 grefl:=λ_=>rfl
 gtrans:=λ_ _ _ h1 h2=>h1.trans h2
 frame:=λi s h' tk st _ k=>⟨st.1.at λo e=>k I (by simp) o e,st.2.at λo e=>k a (by simp) o e⟩
 item:=λi s Q E hi st hQ=>by
  have hi0:i=0:=by omega
  subst hi0
  refine Gy (nx:=j+1) (v:=e.2) st.1 st.2 (by rw[hes];rfl) (λA' Q' E' q=>GD st.2 hft (by rw[hes];exact zc _) ?_) λh' it' sb=>hQ _ _ ?_ ⟨it',st.2.at λo e=>(sb.2 a hne).trans e⟩ (wA sb)
  ·rw[hj,show(if(0:Nat)=0 then(0:Int) else((j+1:Nat):Int)).toNat=0 from rfl,GJ,if_neg (Nat.not_lt_zero _),hes];exact q
  ·exact wC (x:=st.2) (.refl _) (e:=e) (by rw[hes];rfl)
 done:=λs Q E st hQ=>by
  refine Gz hh st.1 st.2 (by rw[hes];rfl) (λA' Q' E' q=>GD st.2 hft (by rw[hes];exact zc _) ?_) λh' e=>hQ _ (wB e)
  rw[hj,show(if(1:Nat)=0 then(0:Int) else((j+1:Nat):Int)).toNat=j+1 from rfl,GJ,if_pos (zZ _),hes];exact q
 self:=λi s Q E st h=>wz st.1 h
theorem Vi{I T:Addr}{oT:Obj}{ps:List Nat}{nT:Nat}{ys:List (Int×Value)}(hh:A.handled=none)(hne:a≠I)(hnT:T≠I)(hTd:oT.data=.seq (ps.map λi=>Value.int (i:Nat) 0).toArray nT)
  (hy:ys.Perm es.toList) (hl:ps.length=es.size) (hp:∀(i p:Nat),ps[i]?=some p->es[p]?=ys[i]?):
  WalksS prog w A I [I,a,T] [I] Eq es.size (PSt (ys.map λe=>strOf e.2)) (λi s=>ItS s.heap I a (.ref T) i es.size ep/\dM prog w s.heap a ss o es ep t/\s.heap.get? T=some oT) where
 sub:=by simp
 grefl:=λ_=>rfl
 gtrans:=λ_ _ _ h1 h2=>h1.trans h2
 frame:=λi s h' tk st _ k=>⟨st.1.at λo e=>k I (by simp) o e,st.2.1.at λo e=>k a (by simp) o e,k T (by simp) _ st.2.2⟩
 item:=λi s Q E hi st hQ=>by
  have hi':i<ps.length:=by omega
  have e1:=zu hi'
  have hyl:ys.length=es.size:=by rw[hy.length_eq,Array.length_toList]
  have e2:=zu (l:=ys) (i:=i) (by omega);have e3:=(hp i _ e1).trans e2
  refine Ve (hs:=_) st.1 st.2.1 rfl st.2.2 hTd (p:=ps[i]) ?_ (v:=(ys[i]'(by omega)).2) e3 λh' it' sb=>hQ _ _ ?_ ⟨it',st.2.1.at λo e=>(sb.2 a hne).trans e,(sb.2 T hnT).trans st.2.2⟩ (wA sb)
  ·rw[List.getElem?_toArray,zD,e1];rfl
  ·exact wC (x:=st.2.1) hy e2
 done:=λs Q E st hQ=>by
  refine Vf hh st.1 st.2.1 rfl st.2.2 hTd ?_ λh' e=>hQ _ (wB e)
  rw[List.getElem?_toArray,zD,jj (by omega)];rfl
 self:=λi s Q E st h=>wz st.1 h
theorem Vj{Q:Value->Shared->Prop}(B:A.handled=none)(U:cZ prog w s.heap a ss)(F:ss≠[])
  (h:∀(q:Shared) (I:Addr) (fp:List Addr) (St:Nat->Shared->Prop) (xs:List Str),(∀b o,s.heap.get? b=some o->q.heap.get? b=some o)->q.gens=s.gens->q.os=s.os->q.toks=s.toks->xs.Perm ss->s.heap.objs.size<=I ->
   (∀b∈fp,b=a\/s.heap.objs.size<=b)->WalksS prog w A I fp [I] Eq xs.length (PSt xs) St->St 0 q->Q (.ref I) q):wpAny (model prog w) A (pyIter (.ref a)) Q E s:=by
 obtain⟨o,es,ep,t,x⟩:=U;have n:=zk x.1
 have hlen:es.size=ss.length:=by rw[<-x.2.2.2.2.1.length_eq];unfold lQ;rw[zf,Array.length_toList]
 have J:0<es.size:=by rw[hlen];exact List.length_pos_iff.mpr F
 refine Vd x (λr=>?_) (λm ps d f=>?_)
 ·have H:dM prog w (s.heap.push {cls:=.type "set_iterator",data:=.fields #[.int 0 0,.int 0 0,.ref a,.int es.size 0,.int ep 0]}) a ss o es ep t:=x.at λo e=>zl _ e
  cases m:w.params.followText "set-order" with
  |true =>
   have W:=Vg (prog:=prog) (o:=o) (ss:=ss) (es:=es) (ep:=ep) (t:=t) B (zo n) m;refine h _ _ [s.heap.objs.size,a] (λi g=>ItS g.heap s.heap.objs.size a (.int 0 0) i es.size ep/\dM prog w g.heap a ss o es ep t) ((pickOrder (w.params.setOrder a ep) es).toList.map λe:Int×Value=>strOf e.2) (λb o e=>zl _ e) rfl rfl rfl (((pK _ es).map λe:Int×Value=>strOf e.2).trans (show(es.toList.map λe:Int×Value=>strOf e.2).Perm ss from x.2.2.2.2.1)) (zc _) (λb c=>?_) ?_ ⟨⟨_,zx _ rfl,rfl,rfl⟩,H⟩
   ·rcases zp.mp c with rfl | c
    ·exact .inr (zc _)
    ·exact .inl (zw.mp c)
   ·rw[zf,(pK _ es).length_eq,Array.length_toList];exact W
  |false =>
   have h1:es.size=1:=by
    rcases r with r | r
    ·rw[m] at r;cases r
    ·omega
   obtain⟨e,G⟩:∃e,es = #[e]:=by
    obtain⟨l⟩:=es
    match l,h1 with
    | [e],_=>exact⟨e,rfl⟩
   have u:=x.2.2.2.2.2.2.1
   obtain⟨j,R⟩:∃j,t.place = #[j]:=by
    have f:t.place.size=1:=by
     simp only[SetTable.fits,zm,beq_iff_eq] at u;omega
    revert f
    generalize t.place=O
    intro f;obtain⟨l⟩:=O
    match l,f with
    | [j],_=>exact⟨j,rfl⟩
   have W:=Vh (prog:=prog) (o:=o) (ss:=ss) (ep:=ep) B (zo n) m G R;refine h _ _ [s.heap.objs.size,a] (λi g=>ItS g.heap s.heap.objs.size a (.int (if i=0 then 0 else((j+1:Nat):Int)) 0) i 1 ep/\dM prog w g.heap a ss o es ep t) (es.toList.map λe:Int×Value=>strOf e.2) (λb o e=>zl _ e) rfl rfl rfl (show(es.toList.map λe:Int×Value=>strOf e.2).Perm ss from x.2.2.2.2.1) (zc _) (λb c=>?_) ?_ ⟨⟨_,zx _ rfl,rfl,by rw[h1];rfl⟩,H⟩
   ·rcases zp.mp c with rfl | c
    ·exact .inr (zc _)
    ·exact .inl (zw.mp c)
   ·rw[zf,Array.length_toList,h1];exact W
 ·obtain⟨L,y,X,P⟩:=map_range es ps f
  have hl':ps.length=es.size:=by rw[f.length_eq,List.length_range]
  have C:(s.heap.push {cls:=.type "tuple",data:=.seq (ps.map λi=>Value.int (i:Nat) 0).toArray}).objs.size=s.heap.objs.size+1:=Heap.size_push _ _;have W:=Vi (prog:=prog) (w:=w) (A:=A) (a:=a) (ss:=ss) (o:=o) (ep:=ep) (t:=t) (I:=s.heap.objs.size+1) (T:=s.heap.objs.size) (oT:={cls:=.type "tuple",data:=.seq (ps.map λi=>Value.int (i:Nat) 0).toArray}) (ps:=ps) B (zo (jf n)) (zo (zZ _)) rfl y hl' P;refine h _ _ [s.heap.objs.size+1,a,s.heap.objs.size] (λi g=>ItS g.heap (s.heap.objs.size+1) a (.ref s.heap.objs.size) i es.size ep/\dM prog w g.heap a ss o es ep t/\g.heap.get? s.heap.objs.size=some {cls:=.type "tuple",data:=.seq (ps.map λi=>Value.int (i:Nat) 0).toArray}) (L.map λe:Int×Value=>strOf e.2) (λb o e=>zl _ (zl _ e)) rfl rfl rfl ((y.map λe:Int×Value=>strOf e.2).trans (show(es.toList.map λe:Int×Value=>strOf e.2).Perm ss from x.2.2.2.2.1)) (Nat.le_succ _) (λb c=>?_) ?_ ⟨⟨_,by rw[<-C];exact zx _ rfl,rfl,rfl⟩,x.at λo e=>zl _ (zl _ e),zl _ (zx _ rfl)⟩
  ·rcases zp.mp c with rfl | c
   ·exact .inr (Nat.le_succ _)
   ·rcases zp.mp c with rfl | c
    ·exact .inl rfl
    ·exact .inr (by rw[zw.mp c];exact zc _)
  ·rw[zf,y.length_eq,Array.length_toList];exact W
theorem Vk{r:Addr}{Q:Bool->Shared->Prop}(d:s.TypeIs (.ref r) "set")(h:Q false s):wpAny (model prog w) A (Builtin.List.listLengthHint (.ref r)) Q E s:=by
 unfold Builtin.List.listLengthHint;refine za (wpAny_specialOf d PySem.F.slot_set_len.lookup ?_)
 generalize hid:("set.__len__":String)=f
 wp_delta
 rw[show splitId f=some ("set","__len__") from by subst hid;decide +kernel];subst hid;refine za (wpAny_isInstance (T:="set") (b:=true) d (by rw[isSubtype_type];kernel_rfl) ?_);refine wpAny_ite_split (λc=>absurd c (by decide)) (λ_=>?_);refine wpAny_ite_split (λ_=>?_) (λc=>absurd (by decide +kernel) c);refine za (wpAny_typeOf d ?_);exact zb h
theorem Vl:∀{xs:List Str}{acc:Array Value},ItemsOf (PSt xs) acc xs.length->StrsAre acc.toList xs:=by
 intro xs acc h
 have e:∀(c:List Value) (xs:List Str),c.length=xs.length->(∀i v,c[i]?=some v->PSt xs i v)->StrsAre c xs:=λc=>by
  induction c with
  |nil=>intro xs f _;cases xs with
   |nil=>exact .nil
   |cons x xs=>cases f
  |cons v c ih =>
   intro xs f d
   cases xs with
   |nil=>cases f
   |cons x xs =>
    obtain⟨y,t,j,g⟩:=d 0 v rfl;cases j;subst g;refine .cons x t (ih xs (Nat.succ.inj f) λi u m=>?_);obtain⟨y,l,j,g⟩:=d (i+1) u m;exact⟨y,l,j,g⟩
 refine e _ _ ?_ λi v d=>?_
 ·rw[Array.length_toList];exact h.1
 ·rw[Array.getElem?_toList] at d;exact h.2 i v d
theorem Vm{R:List Value->Shared->Prop}(hh:A.handled=none)(Y:cZ prog w s.heap a ss)(hne:ss≠[])
  (h:∀(c:Shared) (acc:List Value) (xs:List Str),(∀b o,s.heap.get? b=some o->c.heap.get? b=some o)->c.gens=s.gens->c.os=s.os->s.heap.objs.size<c.heap.objs.size->StrsAre acc xs->xs.Perm ss->R acc c):
  wpAny (model prog w) A (collect (.ref a)) R E s:=by
 have P:a<s.heap.objs.size:=by obtain⟨_,_,_,_,x⟩:=Y;exact zk x.1
 unfold collect;refine za (wpAny_runValue (jh entry_proto_collect' ?_));rw[Around.under_plainId PySem.F.plain_proto_collect _];show wpAny _ A.in1 (newList [] >>= λl=>again (.builtin "list.__iadd__" ⟨[l,.ref a],[]⟩)) _ _ s;refine za (wpAny_newObj_type ?_);refine zb ⟨plainId_quiet PySem.F.plain_list_iadd _,jh entry_list_iadd' ?_⟩;rw[Around.under_plainId PySem.F.plain_list_iadd _];have G:(s.heap.push {cls:=.type "list",data:=.seq ([]:List Value).toArray}).get? s.heap.objs.size=some {cls:=.type "list",data:=.seq #[]}:=zx _ rfl
 have r:cZ prog w (s.heap.push {cls:=.type "list",data:=.seq ([]:List Value).toArray}) a ss:=Y.at λo e=>zl _ e
 show wpAny _ A.in1 (Builtin.List.listExtendWith (.ref s.heap.objs.size) (.ref a) (.ref s.heap.objs.size)) _ _ _;unfold Builtin.List.listExtendWith
 have hT:Shared.TypeIs {s with heap:=s.heap.push {cls:=.type "list",data:=.seq ([]:List Value).toArray}} (.ref a) "set":=by
  obtain⟨o,_,_,_,x⟩:=r;exact⟨o,x.1,x.2.1.1⟩
 refine za (wpAny_typeOf (T:="set") hT ?_)
 have h1:Builtin.List.listSameRef (.ref s.heap.objs.size) (.ref a)=false:=by simp[Builtin.List.listSameRef,Nat.ne_of_gt P]
 simp only[h1,show(Value.type "set" == Value.type "list")=false by decide,show(Value.type "set" == Value.type "tuple")=false by decide,Bool.or_false,Bool.false_eq_true,if_false];refine za (Vj (s:={s with heap:=s.heap.push {cls:=.type "list",data:=.seq ([]:List Value).toArray}}) (by simp[hh]) r hne λm I fp St xs k eg eo et hp U hfp W st=>?_);have B:=k _ _ G;have Z:(s.heap.push {cls:=.type "list",data:=.seq ([]:List Value).toArray}).objs.size=s.heap.objs.size+1:=Heap.size_push _ _
 have u:s.heap.objs.size∉fp:=λj=>by
  rcases hfp _ j with z | z
  ·exact Nat.ne_of_gt P z
  ·change (s.heap.push {cls:=.type "list",data:=.seq ([]:List Value).toArray}).objs.size<=_ at z
   omega
 have hSI:s.heap.objs.size≠I:=λe=>by
  change (s.heap.push {cls:=.type "list",data:=.seq ([]:List Value).toArray}).objs.size<=I at U
  omega
 have hn:xs.length<=sizeLine:=by
  have:=Y.len
  rw[hp.length_eq,sizeLine_eq];unfold scanBound at this;omega
 refine za (zR (Vk ?_ ?_))
 ·obtain⟨o,ho,hc⟩:=hT;exact⟨o,k _ _ ho,hc⟩
 have Q:∀(c:Shared) (d:Array Value) (H:Nat),(∀b o,s.heap.get? b=some o->c.heap.get? b=some o)->c.gens=s.gens->c.os=s.os->s.toks<=c.toks->c.heap.get? s.heap.objs.size=some {cls:=.type "list",dict:=none,data:=.seq d H,slots:=#[]}->ItemsOf (PSt xs) d xs.length ->
   wpAny (model prog w) A (load s.heap.objs.size >>= λo=>match o.data with | .seq xs _=>pure xs.toList | _=>unsupported "internal:collect") R E c:=λc d H O L J X e5 e6 =>
  za (wpAny_load e5 (zb (h c _ xs O L J (zk e5) (Vl e6) hp)))
 have kk:∀(c:Shared) (h2:Heap),(∀b o,b≠s.heap.objs.size->m.heap.get? b=some o->h2.get? b=some o)->Moved (s.heap.objs.size :: [I]) Eq {m with heap:=h2} c->(∀b o,s.heap.get? b=some o->c.heap.get? b=some o)/\c.gens=s.gens/\c.os=s.os/\s.toks<=c.toks:=λc h2 q j=>by
  refine⟨λb o e=>?_,?_,j.os.trans eo,?_⟩
  ·have n:=zk e;refine j.heap b o (λz=>?_) (q b o (zo n) (k b o (zl _ e)))
   rcases zp.mp z with z | z
   ·exact zo n z
   ·change (s.heap.push {cls:=.type "list",data:=.seq ([]:List Value).toArray}).objs.size<=I at U
    have z':=zw.mp z;rw[<-z',Z] at U;exact absurd n (Nat.not_lt.mpr (Nat.le_of_succ_le U))
  ·exact j.gens.symm.trans eg
  ·have:=j.toks
   have et':m.toks=s.toks:=et;rw[<-et'];exact this
 refine wpAny_ite_split (λ_=>?_) (λ_=>zb ⟨plainId_quiet PySem.F.plain_extend_loop _,?_⟩)
 ·refine za (zW ?_);refine za ?_;show wpAny _ _ (updateSeq s.heap.objs.size (·.push .none) >>= λ_=>updateSeq s.heap.objs.size (·.pop)) _ _ _;refine za (jm B rfl ?_);have g:=Heap.get?_update_self (Obj.mapSeq (·.push Value.none)) B rfl;refine jm (hz:=by seq_fits) g rfl ?_;have C:=Heap.get?_update_self (Obj.mapSeq (·.pop)) g rfl
  have hk:∀b o,b≠s.heap.objs.size->m.heap.get? b=some o->((m.heap.update s.heap.objs.size (Obj.mapSeq (·.push Value.none))).update s.heap.objs.size (Obj.mapSeq (·.pop))).get? b=some o:=λb o n e =>
   (jk _ _ (Ne.symm n)).trans ((jk _ _ (Ne.symm n)).trans e)
  refine zb ⟨plainId_quiet PySem.F.plain_extend_loop _,?_⟩
  refine codeAny_extend_loopS W hn s.heap.objs.size u (.ref s.heap.objs.size) xs.length 0 _ #[] _ rfl (Nat.zero_le _) ?_ C (ItemsOf.nil _) λc d H j y f=>?_
  ·exact W.frame 0 m _ m.toks st (zc _) λb n o e=>hk b o (λz=>u (z ▸ n)) e
  ·obtain⟨O,L,J,X⟩:=kk c _ hk j;exact Q c d H O L J X y f
 ·refine codeAny_extend_loopS W hn s.heap.objs.size u (.ref s.heap.objs.size) xs.length 0 _ #[] _ rfl (Nat.zero_le _) st B (ItemsOf.nil _) λc d H j y f=>?_
  obtain⟨O,L,J,X⟩:=kk c m.heap (λb o _ e=>e) j;exact Q c d H O L J X y f
theorem Vn{Q:Value->Shared->Prop}(G:A.handled=none)(I:cZ prog w s.heap a ss)(q:ss≠[])(P:ss.length<64)
  (h:∀(l:Shared) (D:Addr) (c:Nat) (out:List Value) (d:List Str),(∀b o,s.heap.get? b=some o->l.heap.get? b=some o)->l.gens=s.gens->l.os=s.os->s.heap.objs.size<=D->l.heap.get? D=some (seqObj "list" out.toArray c) ->
   StrsAre out d->d.Perm ss->sortedS d=true->Q (.ref D) l):
  wpAny (model prog w) A (call (.builtin "sorted") [.ref a]) Q E s:=by
 refine Calls.call_function_entry kind_sorted plain_sorted entry_sorted (args_sorted1 _) ?_;unfold Builtin.«sorted»;refine za (m:=checkCount "sorted" 1 1 _) (zb ?_);refine za (Vm (by simp[G]) I q λf vs R k O L J g r=>?_)
 have hlen:vs.length=ss.length:=by rw[<-r.length_eq,<-g.strs,zf]
 refine za (wpAny_newList ?_ (by rw[sizeLine_eq];omega));have j:(f.heap.push (seqObj "list" vs.toArray 0)).get? f.heap.objs.size=some (seqObj "list" vs.toArray 0):=zx _ rfl;show wpAny _ _ _ _ _ {f with heap:=f.heap.push (seqObj "list" vs.toArray 0)};refine za (zR (wpAny_call_entry slot_list_sort ⟨_,j,rfl⟩ entry_list_sort (list_sort_treeK (s:={f with heap:=f.heap.push (seqObj "list" vs.toArray 0)}) strKind_oneLt j g.keysOf (λy x rest e=>keyKind_strs (by rw[<-e];exact g)) (by omega) λn a1 a2=>⟨_,rfl,?_⟩) (args_list_sort _)));obtain⟨d,F,C,B⟩:=sorted_out_str g a1 a2
 obtain⟨c,H⟩:=sortedHeap_at (vs:=vs) (out:=((arrOf n).map (·.2))) j;refine zb ⟨_,rfl,h _ f.heap.objs.size c _ d (λb o e=>?_) O L ?_ (by rw[Array.toArray_toList];exact H) F (C.trans r) B⟩
 ·have u:=zk (k b o e);show(sortedHeap (f.heap.push (seqObj "list" vs.toArray 0)) f.heap.objs.size vs ((arrOf n).map (·.2))).get? b=some o;rw[sortedHeap_old (zo u) (by rw[size_push'];exact jf u)];exact zl _ (k b o e)
 ·exact Nat.le_of_lt J
end
theorem wD{a b:List Nat}(h:¬b<a):a<b\/a=b:=by
 by_cases q:a<b
 ·exact .inl q
 ·exact .inr (List.le_antisymm (List.not_lt.mp h) (List.not_lt.mp q))
def j4(x:List Nat):List (List Nat)->List (List Nat)
 | []=>[x]
 |y::r=>if x<y then x::y::r else if x=y then y::r else y::j4 x r
def jC(l:List (List Nat)):List (List Nat):=l.foldr j4 []
def stepT(ss:List (List Nat))(x:List Nat):List (List Nat):=if x∈ss then ss else ss++[x]
theorem wG(x y:List Nat):∀l,y∈j4 x l↔y=x\/y∈l
 | []=>by simp[j4]
 |z::r=>by
  unfold j4
  split
  ·simp
  ·split
   ·rename_i e;subst e;simp
   ·rw[zp,wG x y r,zp];constructor
    ·rintro(h | h | h)
     ·exact .inr (.inl h)
     ·exact .inl h
     ·exact .inr (.inr h)
    ·rintro(h | h | h)
     ·exact .inr (.inl h)
     ·exact .inl h
     ·exact .inr (.inr h)
theorem GK(x:List Nat):∀l,l.Pairwise (· < ·)->(j4 x l).Pairwise (· < ·)
 | [],_=>List.pairwise_singleton _ _
 |y::r,h=>by
  obtain⟨h1,h2⟩:=List.pairwise_cons.mp h;unfold j4
  split
  ·rename_i c;refine List.pairwise_cons.mpr ⟨λz a=>?_,h⟩
   rcases zp.mp a with rfl | a
   ·exact c
   ·exact List.lt_trans c (h1 z a)
  ·split
   ·exact h
   ·rename_i d f;refine List.pairwise_cons.mpr ⟨λz a=>?_,GK x r h2⟩
    rcases(wG x z r).mp a with rfl | a
    ·rcases wD d with q | q
     ·exact q
     ·exact absurd q.symm f
    ·exact h1 z a
theorem wH:∀l,(jC l).Pairwise (· < ·)
 | []=>.nil
 |x::l=>GK x _ (wH l)
theorem sr(y:List Nat):∀l,y∈jC l↔y∈l
 | []=>Iff.rfl
 |x::l=>by
  show y∈j4 x (jC l)↔_;rw[wG,sr y l,zp]
theorem GP:∀(c a:List (List Nat)),c.Pairwise (· < ·)->a.Pairwise (· < ·)->(∀x,x∈c↔x∈a)->c=a
 | [],[],_,_,_=>rfl
 | [],y::a,_,_,h=>nomatch (h y).mpr zg
 |x::c,[],_,_,h=>nomatch (h x).mp zg
 |x::c,y::a,h1,h2,h=>by
  obtain⟨a1,a2⟩:=List.pairwise_cons.mp h1;obtain⟨f,g⟩:=List.pairwise_cons.mp h2
  have e:x=y:=by
   rcases zp.mp ((h x).mp zg) with e | e
   ·exact e
   ·rcases zp.mp ((h y).mpr zg) with q | q
    ·exact q.symm
    ·exact absurd (List.lt_trans (f x e) (a1 y q)) (List.lt_irrefl y)
  subst e;rw[GP c a a2 g λz=>?_];constructor
  ·intro d
   rcases zp.mp ((h z).mp (zq _ d)) with q | q
   ·subst q;exact absurd (a1 z d) (List.lt_irrefl z)
   ·exact q
  ·intro d
   rcases zp.mp ((h z).mpr (zq _ d)) with q | q
   ·subst q;exact absurd (f z d) (List.lt_irrefl z)
   ·exact q
theorem Vo(l:List (List Nat))(x:List Nat):eU (l.map S) (S x)=(stepT l x).map S:=by
 unfold eU stepT
 by_cases h:x∈l
 ·rw[if_pos h,if_pos (zy.mpr ⟨x,h,rfl⟩)]
 ·rw[if_neg h,if_neg λz=>?_,zI];rfl;obtain⟨y,a,e⟩:=zy.mp z;rw[lA e] at a;exact h a
theorem su:∀(xs acc:List (List Nat)),(xs.map S).foldl eU (acc.map S)=(xs.foldl stepT acc).map S
 | [],acc=>rfl
 |x::xs,acc=>by
  rw[zd,List.foldl_cons,List.foldl_cons,Vo];exact su xs _
theorem sy(y:List Nat):∀(xs acc:List (List Nat)),y∈xs.foldl stepT acc↔y∈acc\/y∈xs
 | [],acc=>by simp
 |x::xs,acc=>by
  rw[List.foldl_cons,sy y xs];unfold stepT
  split
  ·rename_i h;constructor
   ·rintro(q | q)
    ·exact .inl q
    ·exact .inr (zq _ q)
   ·rintro(q | q)
    ·exact .inl q
    ·rcases zp.mp q with rfl | q
     ·exact .inl h
     ·exact .inr q
  ·rw[zC,zw,zp,or_assoc]
theorem wI:∀(xs acc:List (List Nat)),acc.Nodup->(xs.foldl stepT acc).Nodup
 | [],acc,h=>h
 |x::xs,acc,h=>by
  rw[List.foldl_cons];refine wI xs _ ?_;unfold stepT
  split
  ·exact h
  ·rename_i d;rw[jg];refine⟨h,by simp,λa f b c=>?_⟩;rw[zw] at c;subst c;intro e;subst e;exact d f
theorem GQ:∀(l:List Str),sortedS l=true->(l.map λx=>x.cps.toList).Pairwise (λa b=>¬b<a)
 | [],_=>.nil
 | [x],_=>List.pairwise_singleton _ _
 |x::y::r,h=>by
  have h':risingS x (y::r)=true:=h;unfold risingS at h';rw[zm,Bool.not_eq_true',ltCps_eq,decide_eq_false_iff_not] at h';have f:=GQ (y::r) h'.2;rw[zd];refine List.pairwise_cons.mpr ⟨λz c=>?_,f⟩;rw[zd] at c f
  rcases zp.mp c with rfl | c
  ·exact h'.1
  ·have:=(List.pairwise_cons.mp f).1 z c
   intro q
   rcases wD h'.1 with d | d
   ·exact this (List.lt_trans q d)
   ·rw[d] at q;exact this q
theorem Vp{l:List (List Nat)}{ss:List Str}(d:ss.Perm ((l.map S).foldl eU []))(hs:sortedS ss=true):ss=(jC l).map S:=by
 have e:=su l [];rw[zQ] at e;rw[e] at d
 have f:(ss.map λx:Str=>x.cps.toList)=jC l:=by
  have c:(ss.map λx:Str=>x.cps.toList).Perm (l.foldl stepT []):=by
   refine(d.map _).trans ?_;rw[zL];rw[show((λx:Str=>x.cps.toList) ∘ S)=id from funext λa=>lz a,List.map_id]
  have g:=c.nodup_iff.mpr (wI l [] .nil)
  refine GP _ _ ?_ (wH l) λx=>?_
  ·refine(List.Pairwise.and (GQ ss hs) g).imp λ{a b} h=>?_
   rcases wD h.1 with q | q
   ·exact q
   ·exact absurd q h.2
  ·rw[sr,c.mem_iff,sy];simp
 have j:∀x:Str,S x.cps.toList=x:=λx=>by cases x;simp[S]
 rw[<-f,zL]
 conv=>lhs;rw[<-List.map_id ss]
 exact jo λx _=>(j x).symm
section
variable {X:Cx}
theorem Inv.drew{X:Cx}{pins:List (Addr×Obj)}{σ:St}{H:Hp}{s:Shared}{d:Drawn}(I:Inv X pins σ H s):Inv X pins σ H {s with drawn:=d}:=⟨I.ok,I.os,I.bare,I.base,I.loc,I.cell,I.free,I.freeC,I.pin,I.hok,I.len⟩
theorem GR:∀{ss:List Str}{its:List Value},aN (ss.map V.str) its->StrsAre its ss
 | [],_,h=>by cases h;exact .nil
 |x::ss,_,h=>by
  cases h with
  |cons a b =>
   obtain⟨t,rfl⟩:=a;exact .cons x t (GR b)
theorem GX:∀{ss:List Str}{its:List Value},StrsAre its ss->aN (ss.map V.str) its
 | _,_,.nil=>.nil
 | _,_,.cons x t h=>.cons ⟨t,rfl⟩ (GX h)
def Vq(P:Program)(w:World)(K:Frag):List V->Hp->VK->Prop:=λc H Q=>∃(a:Addr) (ss:List Str),c=[.ref a]/\SqL K H a (ss.map V.str)/\ss.length<4000/\∀l,H l=none->Q (.ref l) (upd H l (.ext λh=>cZ P w h l (ss.foldl eU [])))
theorem Vr(y:X.calm=true):iY X (.type "set") (Vq X.prog X.w X.K):=by
 intro pins s σ H C E Q I r h;obtain⟨a,ss,rfl,n,G,q⟩:=h;obtain⟨u,rfl,g⟩:=vals1 r;cases g;obtain⟨c,d,m,F⟩:=I.list n
 have hlen:c.length=ss.length:=by have:=d.length;rw[zf] at this;exact this.symm
 refine U8 (I.ok.hd y) m.isList (ns:=ss) (GR d) (by rw[zA,hlen];unfold scanBound;omega) λB tk f k=>?_
 refine⟨.ref s.heap.objs.size,_,I.laid (t':=tk) k (zc _) (show bW X.prog X.w _ B _ (.ext _) from⟨f,?_,λh1 h2 l j=>cZ.at l j⟩),rfl,q _ (I.hok.fresh (zc _))⟩;obtain⟨o,_,_,_,x⟩:=f;exact⟨o,x.1⟩
def Vs(P:Program)(w:World):List V->Hp->VK->Prop:=λd H Q=>∃(a:Addr) (ss:List Str),d=[.ref a]/\H a=some (.ext λh=>cZ P w h a ss)/\ss≠[]/\ss.length<64/\∀l c,c.Perm ss->sortedS c=true->H l=none->Q (.ref l) (upd H l (.lst (c.map V.str)))
theorem Vt(L:X.calm=true):iY X (.builtin "sorted") (Vs X.prog X.w):=by
 intro pins s σ H U W Q I r h;obtain⟨a,ss,rfl,O,m,x,q⟩:=h;obtain⟨u,rfl,G⟩:=vals1 r;cases G;have P:cZ X.prog X.w s.heap a ss:=(I.hok a _ O).1
 refine Vn (I.ok.hd L) P m x λF D c out d k E C B n j y J=>?_
 obtain⟨R,T,Y,f,g⟩:=F
 change T=s.gens at E
 change g=s.os at C
 subst E;subst C
 have l:(d.map V.str).length<=sizeLine:=by rw[zf,y.length_eq,sizeLine_eq];omega
 exact⟨.ref D,_,(I.laid (t':=f) k B (show bW X.prog X.w _ R _ (.lst (d.map V.str)) from⟨l,out,c,GX j,n⟩)).drew,rfl,q _ _ y J (I.hok.fresh B)⟩
def strsT:List D->Option (List (List Nat))
 | []=>some []
 | .str l::ds=>(strsT ds).map (l :: ·)
 | _=>none
def sE(d:D):Option D:=match d with
 | .lst ds=>match strsT ds with
  |some l=>if l.length<4000/\l≠[]/\(l.foldl stepT []).length<64 then some (.lst ((jC l).map .str)) else none
  |none=>none
 | _=>none
def pL:List D->Option D
 | [d]=>sE d
 | _=>none
theorem Rps.strsT{K:Frag}{F:Hp}{a:List Addr}:∀{ds:List D}{xs:List V}{l:List (List Nat)},Rps K F a xs ds->L2.strsT ds=some l->xs=(l.map S).map V.str
 | [],xs,l,h,e=>by cases e;exact h
 |d::ds,xs,l,h,e=>by
  obtain⟨x,c,rfl,h3,h4⟩:=h.un
  cases d with
  |str t =>
   unfold L2.strsT at e
   cases q:L2.strsT ds with
   |none=>rw[q] at e;cases e
   |some l' =>
    rw[q] at e;cases e;rw[Rps.strsT h4 q];show x::_=_;rw[show x=V.str (S t) from h3];rfl
  | _=>cases e
theorem Rps.ofStrs{K:Frag}{F:Hp}{a:List Addr}:∀l:List (List Nat),Rps K F a ((l.map S).map V.str) (l.map D.str)
 | []=>Rps.nil
 |x::l=>Rps.cons (show Rp K F a (V.str (S x)) (.str x) from rfl) (Rps.ofStrs l)
variable {md:List Md}{P:Pt}
theorem Vu{e:Expr}{p1 q1 C m:Pos}{ms:List Md}{ma:M (List D)}(E:X.calm=true)(W:X.mg "sorted" = none)(U:X.mg "set" = none)(ha:AE X md P ms [e] ma)(hg1:Gl X "sorted":=by rfl)(Z:Gl X "set":=by rfl)
  (he:starEach [e] X.env=(false,eval e X.env)::starEach [] X.env:=by exact dH rfl) (R:(backTo m (starEach [] X.env)).any (·.1)=false:=by exact eH rfl)
  (u:starEach [Expr.Call (.Name "set" C) [e] [] m] X.env=(false,eval (Expr.Call (.Name "set" C) [e] [] m) X.env)::starEach [] X.env:=by exact dH rfl) (B:(backTo q1 (starEach [] X.env)).any (·.1)=false:=by exact eH rfl):
  OE X md P (.Call (.Name "sorted" p1) [.Call (.Name "set" C) [e] [] m] [] q1) (bK pL ma):=by
 have Y:PE X (.Call (.Name "set" C) [e] [] m) _:=Dt (Vr E) Z U (by decide +kernel) ha (by decide) (by decide) he R
 refine(Ds (Vt E) hg1 W (by decide +kernel) (qO Y qN u) (by decide) (by decide) u B).imp λσ H Q q=>?_
 obtain⟨ρ,O,F,as,d,O',r,s,e,k⟩:=q;obtain⟨ds,O1,e1,e⟩:=Res.bind_ok e;split at e
 ·rename_i y g;cases e;refine⟨ρ,_,F,as,_,_,r,s,e1,λvs H1 F1 as1 g1 G hv=>?_⟩;have n:=hv.lks G
  generalize hds:ds.map (bG O')=es at g n
  unfold pL at g;split at g
  ·rename_i d0;obtain⟨v,rfl,L⟩:=n.one;unfold sE at g;split at g
   ·rename_i ds0;split at g
    ·rename_i l hl;split at g
     ·rename_i f;cases g;obtain⟨p,xs,rfl,h1,h2⟩:=L.list G.fh;have J:=Rps.strsT h2 hl;subst J;refine⟨p,l.map S,rfl,h1.sq,by rw[zf];exact f.1,λa I=>?_⟩
      have T:(l.map S).foldl eU []≠[]:=λz=>by
       have j:=su l [];rw[zQ,z] at j
       cases hq:l.foldl stepT [] with
       |nil =>
        cases l with
        |nil=>exact f.2.1 rfl
        |cons x l' =>
         have:=(sy x (x::l') []).mpr (.inr zg)
         rw[hq] at this;cases this
       |cons x l'=>rw[hq] at j;cases j
      refine⟨a,_,rfl,bI,T,?_,λb ss' hp hs hB=>?_⟩
      ·have j:=su l [];rw[zQ] at j;rw[j,zf];exact f.2.2
      ·rw[Vp hp hs];refine mR (G.lay I) (λv' H' F' g' r' hw=>k v' H' F' as1 (g1.trans ((Gr.lay I).trans g')) r' (fB _ _ _ _ _ _ _ (λc E=>?_) hw)) hB (Rps.ofStrs _);refine g1.dm c ?_
       rcases Decidable.em (c=a) with z | z
       ·rw[z];exact I
       ·rwa [aL z] at E
     ·cases g
    ·cases g
   ·cases g
  ·cases g
 ·cases e
end
structure cH(mg:Str->Option Value):Prop extends Gn mg where
 set_:mg "set" = none
section
variable {prog:Program}{w:World}{A:Around}{E:Value->Shared->Prop}{s:Shared}{K:Frag}{H F:Hp}{as:List Addr}
end
section
variable {X:Cx}
end
end L2
namespace L2
open PySem PySem.Spec PyProof.Rows
section
variable {X:Cx}{md:List Md}{P:Pt}{R:RR}
end
section
variable {X:Cx}{md:List Md}{P:Pt}
variable {tg iter elt:Expr}{ifs:List Expr}{scope:Scope}{pos:Pos}{mi:M D}{g:MG}{t:M Bool}{e:M D}
end
end L2
namespace L2
open PySem PySem.Spec PyProof.Rows PySem.W
def CXE(j:Program)(w:World):CXT:=λouter H s E e a=>∃(d C:Addr) (c:Hp) (B:Heap) (g:Value),e=.ref d/\a.os=s.os/\AllBare a.gens/\Un (frs outer) [] H c s.heap a.heap/\HOk j w c a.heap /\
 Heap.FlyingW B outer d (.ref C) g a.heap/\(∀b u,c b=some u->∃o,B.get? b=some o)/\(∀b o,s.heap.get? b=some o->b∉frs outer->∃f,B.get? b=some f)/\E (.ref C) none c
section
variable {X:Cx}{md:List Md}{P:Pt}{R:RR}
def wJ(K:Frag)(mg:Str->Option Value)(md:List Md)(P:Pt)(R:RR)(W:Xc->Hp->Prop)(D:Ends)(H F:Hp)(d:List Addr):Fl->Prop
 | .ex x O'=>∀c g a,GrS P H F d c g a->RlO K mg O' c g a->W x c
 |f=>ju K mg md P R D H F d f
theorem wJ.gr{K:Frag}{mg:Str->Option Value}{W:Xc->Hp->Prop}{D:Ends}{H F C E:Hp}{B u:List Addr}{f:Fl}(g:GrS P H F B C E u)(h:wJ K mg md P R W D H F B f):wJ K mg md P R W D C E u f:=by
 cases f with
 |ex x y=>exact λm n a l j=>h m n a (g.trans l) j
 |nx r y=>exact λc m n a l j q=>h c m n a (g.trans l) j q
 |bk r y=>exact λc m n a l j q=>h c m n a (g.trans l) j q
 |ct r y=>exact λc m n a l j q=>h c m n a (g.trans l) j q
 |rt d y=>exact λv m n a l j q=>h v m n a (g.trans l) j q
 |no=>exact h
end
def bmV:List Value:=[.type "ValueError",.type "Exception",.type "BaseException",.type "object"]
section
variable {X:Cx}{md:List Md}{P:Pt}{R:RR}
end
theorem bW.has{P:Program}{w:World}{H:Hp}{h:Heap}{a:Addr}{o:HO}(x:bW P w H h a o):∃u,h.get? a=some u:=by
 cases o with
 |lst c=>exact let ⟨_,_,_,_,e⟩:=x;⟨_,e⟩
 |tup c=>exact let ⟨_,_,_,_,e,_⟩:=x;⟨_,e⟩
 |dK kvs=>exact let ⟨_,_,_,_,_,_,_,e,_⟩:=x;⟨_,e⟩
 |dT kvs=>exact let ⟨_,_,_,_,_,_,_,e,_⟩:=x;⟨_,e⟩
 |dN K kvs=>exact let ⟨_,_,_,_,_,_,_,e,_⟩:=x;⟨_,e⟩
 |set S n=>exact let ⟨_,_,_,_,e,_⟩:=x;⟨_,e⟩
 |ins C j fs=>exact let ⟨_,_,_,e,_⟩:=x;⟨_,e⟩
 |own y=>exact let ⟨_,e⟩:=x;⟨_,e⟩
 |xd fs=>exact let ⟨_,⟨_,_,_,e,_⟩,_⟩:=x;⟨_,e⟩
 |rng lo g=>exact let ⟨_,_,_,e⟩:=x;⟨_,e⟩
 |frz ob u=>exact⟨_,x.1⟩
 |tbl d=>exact⟨_,x⟩
 |met f y=>exact⟨_,x⟩
 |ext φ=>exact x.2.1
theorem HOk.only{P:Program}{w:World}{H:Hp}{h h':Heap}(x:HOk P w H h)(k:∀b v u,H b=some v->h.get? b=some u->h'.get? b=some u):HOk P w H h':=λa o e =>
 (x a o e).stay (λb u c q=>by
  rcases c with rfl | c
  ·exact k _ _ u e q
  ·exact k b _ u c q) (λ_ q=>q) λ_ _ q=>q
theorem Un.then{fs:List Addr}{H0 H:Hp}{h0 h1 h2:Heap}(u:Un fs [] H0 H h0 h1)(st:∀b o,h1.get? b=some o->b∉fs->(∃o',h0.get? b=some o')->h2.get? b=some o)
  (fr:∀b o,h1.get? b=some o->b∈fs->∃sl,h2.get? b=some {o with slots:=sl}):Un fs [] H0 H h0 h2 where
 keep:=λb o q n nf nx=>st b o (u.keep b o q n nf nx) nf ⟨o,q⟩
 slot:=λb o q n hb nx=>by
  obtain⟨sl,e⟩:=u.slot b o q n hb nx;obtain⟨sl2,e2⟩:=fr b _ e hb;exact⟨sl2,e2⟩
 free:=u.free
 there:=λb o q nx=>by
  obtain⟨o',e⟩:=u.there b o q nx
  by_cases hb:b∈fs
  ·obtain⟨sl,e2⟩:=fr b o' e hb;exact⟨_,e2⟩
  ·exact⟨o',st b o' e hb ⟨o,q⟩⟩
 tups:=u.tups
 frzs:=u.frzs
 tbls:=u.tbls
def GZ(P:Program)(w:World)(K:Frag)(mg:Str->Option Value)(base:Heap)(x:Str)(ps:List Str)(k:Nat)(sp:Sp):Prop :=
 ∃f fd,mg x=some (.ref f)/\keepIn K (.ref f)=true/\Binds K fd ps []/\cj P w K mg base (CXE P w) k f fd ps sp/\∃d c a,K.lookup f=some ⟨d,c,.func fd,a⟩
def Vv(K:Frag)(mg:Str->Option Value)(R:RR)(H F:Hp)(j:List Addr)(Q:VK)(E:XK):Res D->Prop
 | .ok d O'=>∀v f g c,Gr H F j f g c->RlO K mg O' f g c->R (λa=>H a=none) f g c v d->Q v f
 | .ex x O'=>∀C f g c,mg x.cls=some (.ref C)->Gr H F j f g c->RlO K mg O' f g c->E (.ref C) none f
 | .no=>False
def sG(K:Frag)(mg:Str->Option Value)(pm:List Md)(R:RR)(c:List D->aq->Res D):Sp:=λvs H Q E =>
 ∃d O F a,RlO K mg O H F a/\cN K H F a pm vs d/\Vv K mg R H F a Q E (c d O)
section
variable {Pr:Program}{w:World}{K:Frag}{mg:Str->Option Value}{base:Heap}
theorem GZ.can{x:Str}{ps:List Str}{k:Nat}{pm:List Md}{R:RR}{c:List D->aq->Res D}(C:GZ Pr w K mg base x ps k (sG K mg pm R c))(J:pm.length=ps.length:=by rfl):Can Pr w K mg base x ps k (vSp K mg pm R c):=by
 obtain⟨f,fd,I,L,P,X,lk⟩:=C;refine⟨f,fd,I,L,P,⟨λg H Q E h=>?_,λA outer s H args y g Q E G U l r h=>?_⟩,lk⟩
 ·obtain⟨n,O,F,u,d,W,r,a,_⟩:=h;rw[a.len.1,J]
 ·obtain⟨n,O,F,u,d,W,B,a,e,q⟩:=h
  have z:sG K mg pm R c g H Q λ_ _ _=>False:=⟨n,O,F,u,B,a,by rw[e];exact q⟩
  refine codeAny_mono (X.run A outer s H args y g Q _ G U l r z) λj Y m=>?_
  cases j with
  |error ev =>
   obtain⟨_,_,_,_,_,_,_,_,_,_,_,_,_,f0⟩:=m;exact f0.elim
  |ok T=>cases T<;>exact m
end
section
variable {X:Cx}{pins:List (Addr×Obj)}{σ:St}{H:Hp}{s:Shared}{ea:Addr}{oe:Obj}
theorem Inv.gone{h':Heap}{l:Str->Option Value}{t':Nat}(I:Inv X pins σ H s)(B:h'.Ns X.env.locals l)(hs:Heap.SameBut X.env.locals s.heap h'):Inv X pins (List.replicate X.N.length none) H {s with heap:=h',toks:=t'}:=by
 have ne:∀b o,X.s₀.heap.get? b=some o->b≠X.env.locals:=λb o e=>zo (zF (zk e) I.ok.above)
 refine⟨I.ok,I.os,I.bare,⟨λb o e n f a=>(hs.2 b (ne b o e)).trans (I.base.keep b o e n f a),λb o e n f a=>?_,I.base.free,λb o e a=>?_,I.base.tups,I.base.frzs,I.base.tbls⟩,⟨l,B,λi x v _ e2 _=>?_⟩,λy c e=>?_,I.free,I.freeC,λp r=>?_,I.hok.only λb v u e q=>(hs.2 b λz=>?_).trans q,List.length_replicate⟩
 ·obtain⟨sl,g⟩:=I.base.slot b o e n f a;exact⟨sl,(hs.2 b (ne b o e)).trans g⟩
 ·obtain⟨m,g⟩:=I.base.there b o e a;exact⟨m,(hs.2 b (ne b o e)).trans g⟩
 ·rw[List.getElem?_replicate] at e2
  split at e2<;>cases e2
 ·obtain⟨v,z⟩:=I.cell y c e;exact⟨v,z.sameBut hs (I.cne y c e)⟩
 ·obtain⟨e,n,j,nf,d⟩:=I.pin p r;exact⟨(hs.2 p.1 j).trans e,n,j,nf,d⟩
 ·rw[z,I.free] at e;cases e
end
end L2
namespace L2
open PySem PySem.Spec PyProof.Rows PySem.W PySem.Calls PySem.Builtin PySem.Builtin.ObjectAttr PySem.Builtin.Getset_descriptor
section
variable {prog:Program}{w:World}{A:Around}{E:Value->Shared->Prop}{K:Frag}{a C:Addr}{o:Obj}{h:Heap}{g:Array GenState}{d:Drawn}{t:Nat}{os:OsState}
structure wK(K:Frag)(C:Addr):Prop where
 ga:findIn K (.ref C) "__getattribute__" = some (some (.builtin "BaseException.__getattribute__"))
 na:findIn K (.ref C) "__getattr__" = some none
 ca:findIn K (.ref C) "__class__" = some (some (.builtin "object.__class__"))
 sp:specialIn K (.builtin "object.__class__") "__get__" = some (some (.builtin "getset_descriptor.__get__"))
 tk:takesIn K (.builtin "object.__class__")=some true
 ob:mroIn K C (.type "object")=some true
 be:mroIn K C (.type "BaseException")=some true
 cl:(clsIn K C).isSome=true
end
end L2
namespace L2
open PySem PySem.Spec PyProof.Rows PySem.W
section
variable {X:Cx}{ea C:Addr}{oe:Obj}
end
section
variable {X:Cx}{md:List Md}{P:Pt}{R:RR}
end
section
variable {X:Cx}{ea C:Addr}{oe:Obj}{i:Nat}{b:Bool}{n:Str}{p p1 pos:Pos}
end
end L2
namespace L2
open PySem PySem.Spec PyProof.Rows
section
variable {X:Cx}
variable {md:List Md}{P:Pt}
end
end L2
namespace L2
open PySem PySem.Spec PyProof.Rows PySem.W
section
variable {prog:Program}{w:World}{A:Around}{E:Value->Shared->Prop}
end
section
variable {X:Cx}{md:List Md}{P:Pt}{R:RR}
end
def pM(mg:Str->Option Value):List Str->List Addr->Prop
 | [],as=>as=[]
 |n::ns,as=>∃a r,as=a::r/\mg n=some (.ref a)/\pM mg ns r
theorem pM.len{mg:Str->Option Value}:∀{ns:List Str}{c:List Addr},pM mg ns c->c.length=ns.length
 | [],c,h=>by
  have h':c=[]:=h;rw[h'];rfl
 |n::ns,c,h=>by
  obtain⟨a,r,rfl,_,h2⟩:=h;rw[zv,h2.len,zv]
section
variable {X:Cx}{md:List Md}{P:Pt}{R:RR}
end
section
variable {X:Cx}{pins:List (Addr×Obj)}{σ:St}{H:Hp}{s:Shared}{ea:Addr}{oe:Obj}
end
section
variable {X:Cx}{md:List Md}{P:Pt}{R:RR}
theorem SlO.drop{K:Frag}{ρ:aA}{σ:St}{H F:Hp}{u:List Addr}{i:Nat}{x:Option V}(s:SlO K md P ρ σ H F u)(n:md[i]?=some .v):SlO K md P (ρ.set i none) (σ.set i x) H F u:=by
 have I:i<ρ.length:=by rw[s.len'];exact(zr.mp n).1
 have ne:∀(j:Nat) (d:D),(ρ.set i none)[j]?=some (some d)->j≠i/\ρ[j]?=some (some d):=λj d e=>by
  by_cases c:j=i
  ·subst c;rw[zP I] at e;cases e
  ·rw[zt (Ne.symm c)] at e;exact⟨c,e⟩
 refine⟨by rw[jc];exact s.len,by rw[jc];exact s.len',s.pd,λj m d L l=>?_,λj k a O J h1 h2 h3 h4 r q=>?_,λy E=>?_⟩
 ·obtain⟨c,l⟩:=ne j d l;rw[zt (Ne.symm c)];exact s.sl j m d L l
 ·obtain⟨c,h3⟩:=ne j _ h3;obtain⟨G,h4⟩:=ne k _ h4;rw[zt (Ne.symm c)] at r;rw[zt (Ne.symm G)] at q;exact s.inj j k a O J h1 h2 h3 h4 r q
 ·obtain⟨g,C,B⟩:=s.pin y E
  have f:i≠y.1:=λz=>by rw[<-z,n] at g;cases g
  rw[zt f,zt f];exact⟨g,C,B⟩
end
section
variable {X:Cx}{ea C:Addr}{oe:Obj}{i ja jb:Nat}{b:Bool}{n na nb w1 w2:Str}{p p1 pos:Pos}
end
section
variable {X:Cx}{md:List Md}{P:Pt}{R:RR}
end
def DK(h h':Heap):Prop:=∀b o,h.get? b=some o->∃a,h'.get? b=some a/\a.dict=o.dict
theorem DK.refl(h:Heap):DK h h:=λ_ o e=>⟨o,e,rfl⟩
theorem DK.trans{h h' h2:Heap}(x:DK h h')(y:DK h' h2):DK h h2:=λb o e=>by
 obtain⟨f,j,c⟩:=x b o e;obtain⟨d,g,a⟩:=y b f j;exact⟨d,g,a.trans c⟩
theorem DK.upd{h:Heap}{a:Addr}{f:Obj->Obj}(d:∀o,o.isFreed=false->(f o).isFreed=false/\(f o).dict=o.dict):DK h (h.update a f):=λb o e=>by
 by_cases z:a=b
 ·subst z;have c:=(Heap.get?_some_iff.mp e).2;exact⟨f o,Heap.get?_update_self f e (d o c).1,(d o c).2⟩
 ·exact⟨o,(jk h f z).trans e,rfl⟩
section
variable {X:Cx}{md:List Md}{P:Pt}{R:RR}
end
section
variable {X:Cx}{md:List Md}{P:Pt}{R:RR}
end
section
variable {Pr:Program}{w:World}{K:Frag}{mg:Str->Option Value}{base:Heap}
def G3(P:Program)(w:World)(K:Frag)(mg:Str->Option Value)(base:Heap)(c m:Str)(ps:List Str)(k:Nat)(sp:Sp):Prop :=
 ∃C f fd,mg c=some (.ref C)/\Cls K C/\kY K C m f/\Binds K fd ps []/\cj P w K mg base (CXE P w) k f fd ps sp
theorem G3.can{c x:Str}{ps:List Str}{k:Nat}{pm:List Md}{R:RR}{j:List D->aq->Res D}(C:G3 Pr w K mg base c x ps k (sG K mg pm R j))(J:pm.length=ps.length:=by rfl):fQ Pr w K mg base c x ps k (vSp K mg pm R j):=by
 obtain⟨C,f,fd,h1,h2,h3,L,W⟩:=C;refine⟨C,f,fd,h1,h2,h3,L,⟨λg H Q E h=>?_,λA outer s H args B g Q E I T m r h=>?_⟩⟩
 ·obtain⟨u,O,F,y,d,U,r,a,_⟩:=h;rw[a.len.1,J]
 ·obtain⟨u,O,F,y,d,U,G,a,e,q⟩:=h
  have z:sG K mg pm R j g H Q λ_ _ _=>False:=⟨u,O,F,y,G,a,by rw[e];exact q⟩
  refine codeAny_mono (W.run A outer s H args B g Q _ I T m r z) λl X n=>?_
  cases l with
  |error ev =>
   obtain⟨_,_,_,_,_,_,_,_,_,_,_,_,_,f0⟩:=n;exact f0.elim
  |ok P=>cases P<;>exact n
end
section
variable {X:Cx}{md:List Md}{P:Pt}{R:RR}
end
section
variable {X:Cx}{md:List Md}{P:Pt}{R:RR}{k:Nat}{c m:Str}{ps:List Str}{p pos apos:Pos}{o e:Expr}{es:List Expr}{pm:List Md}{cf:List D->aq->Res D}{mo:M D}{ma:M (List D)}
end
def CXF(m:Program)(w:World):CXT:=λouter H s E e a=>∃(f C:Addr) (d:Hp) (B:Heap) (l:Value) (c:Option Addr),e=.ref f/\a.os=s.os/\AllBare a.gens/\Un (frs outer) [] H d s.heap a.heap/\HOk m w d a.heap /\
 Heap.FlyingW B outer f (.ref C) l a.heap/\(∀b u,d b=some u->∃o,B.get? b=some o)/\(∀b o,s.heap.get? b=some o->b∉frs outer->∃j,B.get? b=some j)/\(∃g,a.heap.get? f=some g/\g.dict=c)/\E (.ref C) c d
section
variable {X:Cx}{md:List Md}{P:Pt}{R:RR}
abbrev WX:=Xc->Option Addr->Hp->Prop
def wL(K:Frag)(mg:Str->Option Value)(md:List Md)(P:Pt)(R:RR)(W:WX)(D:Ends)(H F:Hp)(j:List Addr):Fl->Prop
 | .ex x O'=>∀c d g a,GrS P H F j d g a->RlO K mg O' d g a->XF K g a c x.fs->W x c d
 |f=>ju K mg md P R D H F j f
theorem wL.gr{K:Frag}{mg:Str->Option Value}{W:WX}{D:Ends}{H F C E:Hp}{B u:List Addr}{f:Fl}(g:GrS P H F B C E u)(h:wL K mg md P R W D H F B f):wL K mg md P R W D C E u f:=by
 cases f with
 |ex x y=>exact λd m n a l j=>h d m n a (g.trans l) j
 |nx r y=>exact λc m n a l j q=>h c m n a (g.trans l) j q
 |bk r y=>exact λc m n a l j q=>h c m n a (g.trans l) j q
 |ct r y=>exact λc m n a l j q=>h c m n a (g.trans l) j q
 |rt d y=>exact λv m n a l j q=>h v m n a (g.trans l) j q
 |no=>exact h
end
section
variable {Pr:Program}{w:World}{K:Frag}{mg:Str->Option Value}{base:Heap}{N:List Str}{qual:Str}{scope:Scope}{f:Addr}{cd:Value}{A:Around}{outer:List Env}{s0:Shared}{H0:Hp}{E E':XK}{pins:List (Addr×Obj)}{σ:St}{H:Hp}{s s':Shared}
end
def G4(P:Program)(w:World)(K:Frag)(mg:Str->Option Value)(base:Heap)(x:Str)(ps:List Str)(k:Nat)(sp:Sp):Prop :=
 ∃f fd,mg x=some (.ref f)/\keepIn K (.ref f)=true/\Binds K fd ps []/\cj P w K mg base (CXF P w) k f fd ps sp/\∃d c a,K.lookup f=some ⟨d,c,.func fd,a⟩
def G5(P:Program)(w:World)(K:Frag)(mg:Str->Option Value)(base:Heap)(c m:Str)(ps:List Str)(k:Nat)(sp:Sp):Prop :=
 ∃C f fd,mg c=some (.ref C)/\Cls K C/\kY K C m f/\Binds K fd ps []/\cj P w K mg base (CXF P w) k f fd ps sp
def Vw(K:Frag)(mg:Str->Option Value)(R:RR)(H F:Hp)(l:List Addr)(Q:VK)(E:XK):Res D->Prop
 | .ok d O'=>∀v f g c,Gr H F l f g c->RlO K mg O' f g c->R (λa=>H a=none) f g c v d->Q v f
 | .ex x O'=>∀C j f g c,mg x.cls=some (.ref C)->Gr H F l f g c->RlO K mg O' f g c->XF K g c j x.fs->E (.ref C) j f
 | .no=>False
def pN(K:Frag)(mg:Str->Option Value)(pm:List Md)(R:RR)(c:List D->aq->Res D):Sp:=λvs H Q E =>
 ∃d O F a,RlO K mg O H F a/\cN K H F a pm vs d/\Vw K mg R H F a Q E (c d O)
section
variable {Pr:Program}{w:World}{K:Frag}{mg:Str->Option Value}{base:Heap}
theorem wM{f:Addr}{fd:FuncData}{ps:List Str}{k:Nat}{pm:List Md}{R:RR}{c:List D->aq->Res D}(L:cj Pr w K mg base (CXF Pr w) k f fd ps (pN K mg pm R c))(C:pm.length=ps.length){CX:CXT}:cj Pr w K mg base CX k f fd ps (vSp K mg pm R c):=by
 refine⟨λg H Q E h=>?_,λA outer s H args x g Q E B I l r h=>?_⟩
 ·obtain⟨n,O,F,u,d,J,r,a,_⟩:=h;rw[a.len.1,C]
 ·obtain⟨n,O,F,u,d,J,y,a,e,q⟩:=h
  have z:pN K mg pm R c g H Q λ_ _ _=>False:=⟨n,O,F,u,y,a,by rw[e];exact q⟩
  refine codeAny_mono (L.run A outer s H args x g Q _ B I l r z) λj P m=>?_
  cases j with
  |error ev =>
   obtain⟨_,_,_,_,_,_,_,_,_,_,_,_,_,_,_,f0⟩:=m;exact f0.elim
  |ok G=>cases G<;>exact m
theorem G4.can{x:Str}{ps:List Str}{k:Nat}{pm:List Md}{R:RR}{c:List D->aq->Res D}(C:G4 Pr w K mg base x ps k (pN K mg pm R c))(d:pm.length=ps.length:=by rfl):Can Pr w K mg base x ps k (vSp K mg pm R c):=by
 obtain⟨f,fd,a,g,j,l,lk⟩:=C;exact⟨f,fd,a,g,j,wM l d,lk⟩
theorem G5.can{c x:Str}{ps:List Str}{k:Nat}{pm:List Md}{R:RR}{a:List D->aq->Res D}(C:G5 Pr w K mg base c x ps k (pN K mg pm R a))(d:pm.length=ps.length:=by rfl):fQ Pr w K mg base c x ps k (vSp K mg pm R a):=by
 obtain⟨C,f,fd,h1,h2,h3,g,j⟩:=C;exact⟨C,f,fd,h1,h2,h3,g,wM j d⟩
end
section
variable {X:Cx}{md:List Md}{P:Pt}{R:RR}
end
section
variable {X:Cx}{md:List Md}{P:Pt}{R:RR}{k:Nat}{c m:Str}{ps:List Str}{p pos apos:Pos}{o e:Expr}{es:List Expr}{pm:List Md}{cf:List D->aq->Res D}{mo:M D}{ma:M (List D)}
end
section
variable {X:Cx}{md:List Md}{P:Pt}{R:RR}
end
end L2
namespace L2
open PySem PySem.Spec PyProof.Rows PySem.W PySem.Builtin PySem.Builtin.ObjectAttr
def wN(K:Frag)(C:Addr)(a:List Value)(newId:String)(c:Addr):Bool:=match K.lookup C with
 |some ⟨.type "type",_,.cls cd,sl⟩=>(match cd.mro,sl.toList with
  | .ref C'::bm,[_,_,_,_,some (.builtin n),_]=>C' == C&&n == newId && !cd.hasDel&&tailIn K a bm&&nsOkIn K cd.ns&&nsIn K cd.ns "__init__" == some (some (.ref c))&&cd.hasDict
  | _,_=>false)
 | _=>false
theorem Vx{K:Frag}{C E:Addr}{u:String}(a:wN K C bmV u E=true):
  ∃f N nm r bs q c y col x n m l j g,K.lookup C=some (excClassObj nm r C N bs f true q c y col x n m l j g u)/\tailIn K bmV f=true/\nsOkIn K N=true/\nsIn K N "__init__" = some (some (.ref E)):=by
 unfold wN at a;split at a
 case h_2=>cases a
 case h_1 x cd sl lk =>
  split at a
  case h_2=>cases a
  case h_1 C1 f n m l j nn g T R =>
   rw[zm,zm,zm,zm,zm,zm] at a;obtain⟨⟨⟨⟨⟨⟨Q,P⟩,O⟩,L⟩,J⟩,I⟩,H⟩:=a;have G:C1=C:=beq_iff_eq.mp Q;have F:nn=u:=beq_iff_eq.mp P;subst G;subst F
   rcases cd with⟨nm,bs,B,ns,r,hd,q,c,y,col,d⟩
   have e1':B=.ref C1::f:=T
   have p3':d=false:=by
    have z:(!d)=true:=O
    cases d with
    |false=>rfl
    |true=>cases z
   have p7':hd=true:=H;subst e1';subst p3';subst p7'
   rcases sl with⟨ls⟩
   have e2':ls=[n,m,l,j,some (.builtin nn),g]:=R;subst e2';exact⟨f,ns,nm,r,bs,q,c,y,col,x,n,m,l,j,g,lk,L,J,beq_iff_eq.mp I⟩
theorem G6{K:Frag}(self:Value):∀{l:List Value},tailIn K bmV l=true->refuseLoop self "__setattr__" l=pure ()
 | [],e=>by rw[show([]:List Value)=bmV from(beq_iff_eq.mp e).symm];exact PySem.F.store_ValueError.passes self
 |v::r,e=>by
  unfold tailIn at e
  rcases Bool.or_eq_true_iff.mp e with q | q
  ·rw[beq_iff_eq.mp q];exact PySem.F.store_ValueError.passes self
  ·split at q
   ·split at q
    ·rw[zm,zm] at q;rw[refuseLoop_ref];exact G6 self q.2
    ·cases q
   ·cases q
def wO(C t:Addr)(a:Option Addr):Obj:={cls:=.ref C,dict:=a,data:=.fields #[.ref t,.none,.none,.none,.bool false,.none]}
section
variable {prog:Program}{w:World}{A:Around}{E:Value->Shared->Prop}{h:Heap}{g:Array GenState}{d:Drawn}{t:Nat}{os:OsState}
variable {nm q:Str}{C N:Addr}{bs bm bmB:List Value}{hdct:Bool}{sn:List Str}{sub:List Value}{ab:Bool}{col:Option Bool}{dd:Option Addr}{k0 k1 k2 k3 k5:Option Value}{B newId initId:String}
theorem Vy{K:Frag}{x:Addr}{j:Obj}{name:Str}{tk:Tok}{v:Value}{u:ClassData}{Q:Fin->Shared->Prop}(X:K.In h)(r:h.get? x=some j)(F:j.cls=.ref C)(c:j.dict=none)(f:∃U,j.data=.fields U)
  (n:clsIn K C=some u) (L:u.hasDict=true) (H:refuseLoop (.ref x) "__setattr__" u.mro=pure ()) (J:findIn K (.ref C) name=some none)
  (hq:∀h' G,h'.Ns1 h.objs.size (λy=>if y=name then some v else none)->h'.get? x=some {j with dict:=some h.objs.size}->(∀b o,b≠x->h.get? b=some o->h'.get? b=some o)->Q (.done (.ret .none)) ⟨h',g,d,G,os⟩):
  wpAny (model prog w) A (Builtin.«object.__setattr__» ⟨[.ref x,.str name tk,v],[]⟩) Q E ⟨h,g,d,t,os⟩:=by
 obtain⟨U,f⟩:=f;have Z:Looks (model prog w) h (typeOf (.ref x)) (.ref C):=F ▸ (Looks.ld r).andThen .now;have hm:Looks (model prog w) h (mroOf (.ref C)) u.mro:=(looks_clsIn X n).andThen .now;have L2:=looks_findIn (M:=model prog w) X J;rw[osa_eq,refuse_eq];refine za (za (Z.at (za (hm.at ?_))));rw[H];refine zb (za (Z.at (za (L2.at (za (zb ?_))))));show wpAny _ _ (storeInOwnDict _ _ _ _ _ _) _ _ _;unfold storeInOwnDict;refine za (zb (za ?_));unfold ownDictForStores instanceDict;dsimp only;refine za (wpAny_loadPart r ?_);obtain⟨oc,odi,oda,osl⟩:=j;dsimp only at F c f
 subst F c f;refine za ((looks_clsIn X n).at ?_);rw[L];rw[if_neg (by decide),if_neg (by simp[typeHasDict])];have a:=zl {cls:=.type "dict",data:=.dict #[]} r;have l:x≠h.objs.size:=zo (zk r);refine za (wpAny_alloc' ?_);refine za (wpAny_update' a ?_);refine zb ?_;have O:((h.push {cls:=.type "dict",data:=.dict #[]}).update x λo=>{cls:=o.cls,dict:=some h.objs.size,data:=o.data,slots:=o.slots}).get? h.objs.size=some {cls:=.type "dict",data:=.dict #[]}:=
  (Heap.get?_update_ne _ _ _ _ l.symm).trans (Heap.get?_push_at rfl rfl)
 have c:((h.push {cls:=.type "dict",data:=.dict #[]}).update x λo=>{cls:=o.cls,dict:=some h.objs.size,data:=o.data,slots:=o.slots}).Ns h.objs.size (λ_=>none):=
  ⟨_,#[],_,O,rfl,λe he=>absurd he (by simp),λ_=>rfl⟩
 show wpAny _ _ (storeInDict h.objs.size (.str name tk) name v) _ _ _;unfold storeInDict newKeyGuard;refine za (zb (za (wpAny_nsSet1 (Heap.Ns1.of_empty c) λh' m W=>?_)));obtain⟨oD,esD,epD,I,P,R⟩:=m.count (Within.cons name v Within.nil);refine za (wpAny_lookBehind I (by rw[P];exact pastItsLine_dict (zG R (by rw[zv,zT,sizeLine_eq];omega))) ?_)
 wp_walk
 refine hq h' _ m ((W.2 x l).trans (Heap.get?_update_self _ a rfl)) λb ob T Y=>?_
 exact(W.2 b (zo (zk Y))).trans ((Heap.get?_update_ne _ _ _ _ T).trans (zl _ Y))
end
def xoK(C t c:Addr)(a:Option Addr):HO:=.ext λh=>h.get? c=some (wO C t a)
theorem Vz{P:Program}{w:World}{H:Hp}{h:Heap}{C t c:Addr}{a:Option Addr}(e:h.get? c=some (wO C t a)):bW P w H h c (xoK C t c a):=⟨e,⟨_,e⟩,λ_ _ z k=>k _ z⟩
theorem VB{P:Program}{w:World}{H:Hp}{h:Heap}{C t c:Addr}{a:Option Addr}(q:bW P w H h c (xoK C t c a)):h.get? c=some (wO C t a):=q.1
def spI(C:Addr)(name:Str):Sp:=λvs H Q _=>∃a t v,vs=[.ref a,v]/\H a=some (xoK C t a none)/\∀c d,H c=none->c≠a->Q .non (upd (upd H c (.frz d (.xd [(name,v)]))) a (xoK C t a (some c)))
structure pO(K:Frag)(C fI:Addr)(name:Str):Prop where
 cl:wN K C bmV "ValueError.__new__" fI=true
 sa:findIn K (.ref C) "__setattr__" = some (some (.builtin "object.__setattr__"))
 na:findIn K (.ref C) name=some none
 ob:mroIn K C (.type "object")=some true
section
variable {X:Cx}{pins:List (Addr×Obj)}{σ:St}{H:Hp}{s:Shared}{ea C fI t:Addr}{name:Str}{v:V}{u:Value}
theorem VD{A:Around}{E:Value->Shared->Prop}{Q:Unit->Shared->Prop}(I:Inv X pins σ H s)(Z:pO X.K C fI name)(e:H ea=some (xoK C t ea none))(rv:RelV v u)
  (hq:∀G od W,H G=none->G≠ea->Inv X pins σ (upd (upd H G (.frz od (.xd [(name,v)]))) ea (xoK C t ea (some G))) W->Q () W):wpAny (model X.prog X.w) A (setAttr (.ref ea) name u) Q E s:=by
 have m:=VB (I.hok ea _ e);obtain⟨bm,N,nm,qn,bs,sn,sub,ab,col,dd,k0,k1,k2,k3,k5,lk,ht,_,_⟩:=Vx Z.cl;have g:=PySem.F.store_object
 obtain⟨J,T,hm,R⟩:∃J,clsIn X.K C=some J/\J.mro=.ref C::bm/\J.hasDict=true:=by
  refine⟨_,by unfold clsIn;rw[show X.K.lookup C=_ from lk],rfl,rfl⟩
 refine set_plain (od:=none) I.kIn ⟨m,rfl,rfl,trivial⟩ Z.sa ?_;have L0:Looks (model X.prog X.w) s.heap (isInstance (.ref ea) (.type "object")) true:=(show Looks (model X.prog X.w) s.heap (typeOf (.ref ea)) (.ref C) from(Looks.ld m).andThen .now).andThen (looks_mroIn I.kIn Z.ob);refine codeAny_call_builtin g.slot.plain g.entry (@check_slot (model X.prog X.w) _ _ {s with toks:=s.toks+1} "object.__setattr__" "object" "__setattr__" (.ref ea) [.str name s.toks,u] [] _ g.kind g.split L0 (g.args (.ref ea) (.str name s.toks) u) ?_)
 refine Vy I.kIn m rfl rfl ⟨_,rfl⟩ T R (by rw[hm,refuseLoop_ref];exact G6 _ ht) Z.na λh' tk' j l r=>?_
 show Q () _;have c:H s.heap.objs.size=none:=I.hok.fresh (zc _);have P:s.heap.objs.size≠ea:=(zo (zk m)).symm;obtain⟨od,es,ep,O,hr⟩:=id j;refine hq s.heap.objs.size od _ c P (I.un ⟨λb o q n _ _=>?_,λb o q n _ _=>?_,λb o q n _=>?_,λb o q _=>?_,λb Y q=>?_,λb o U q=>?_,λb ps q=>?_⟩ λb o q=>?_)
 ·exact r b o (λz=>by rw[z,e] at n;cases n) q
 ·exact⟨o.slots,r b o (λz=>by rw[z,e] at n;cases n) q⟩
 ·rw[aL (λz=>by rw[z,e] at n;cases n),aL (zo (zk q))];exact n
 ·by_cases z:b=ea
  ·exact⟨_,z ▸ l⟩
  ·exact⟨o,r b o z q⟩
 ·rw[aL (λz=>by rw[z,e] at q;cases q),aL (λz=>by rw[z,c] at q;cases q)];exact q
 ·rw[aL (λz=>by rw[z,e] at q;cases q),aL (λz=>by rw[z,c] at q;cases q)];exact q
 ·refine⟨#[],?_⟩;rw[aL (λz=>by rw[z,e] at q;cases q),aL (λz=>by rw[z,c] at q;cases q),Array.append_empty];exact q
 ·by_cases z:b=ea
  ·subst z;rw[bI] at q;cases q;exact Vz l
  ·rw[aL z] at q
   by_cases y:b=s.heap.objs.size
   ·subst y;rw[bI] at q;cases q;refine⟨O,_,j,λf=>?_⟩
    by_cases B:f=name
    ·rw[if_pos B,B];show dD (List.lookup name [(name,v)]) _;rw[show List.lookup name [(name,v)]=some v by simp[List.lookup]];exact rv
    ·have hb:(f == name)=false:=beq_eq_false_iff_ne.mpr B;rw[if_neg B,show List.lookup f [(name,v)]=none by simp only[List.lookup,hb]];exact True.intro
   ·rw[aL y] at q
    refine(I.hok b o q).stay (λL U d a=>r L U (λx=>?_) a) (λL a=>?_) λL Y a=>?_
    ·rcases d with rfl | d
     ·exact z x
     ·rw[x,e] at d;cases d
    ·rw[aL (λx=>by rw[x,e] at a;cases a),aL (λx=>by rw[x,c] at a;cases a)];exact a
    ·rw[aL (λx=>by rw[x,e] at a;cases a),aL (λx=>by rw[x,c] at a;cases a)];exact a
def VF(C:Addr)(name:Str):TS:=λD σ H=>∃ea t v,σ[0]?=some (some (.ref ea))/\σ[1]?=some (some v)/\H ea=some (xoK C t ea none)/\∀a c,H a=none->a≠ea->D.nx σ (upd (upd H a (.frz c (.xd [(name,v)]))) ea (xoK C t ea (some a)))
theorem VH{a pn:Str}{l j g f:Pos}(Z:pO X.K C fI name)(h0:X.N[0]?=some a)(h1:X.N[1]?=some pn)(n:Vis X.env.scope a)(m:Vis X.env.scope pn)(R:(a == ("__debug__":Str))=false)(Q:(pn == ("__debug__":Str))=false)(c0:(a == ("__classdict__":Str))=false)(T:(pn == ("__classdict__":Str))=false)
  (hs:swapsWith (.Name pn g) (some (.Attribute (.Name a l) name j)) f.line X.env=pure false):PS X (.Assign [.Attribute (.Name a l) name j] (.Name pn g) f) (VF C name):=by
 intro pins s σ H D I q;obtain⟨ea,t,v,O,L,J,k⟩:=q;refine plainObj_wpAny_Assign_Attribute (thn (kJ (i:=1) h1 m Q T pins s σ H (λc d=>c=v/\d=H) I ⟨v,L,rfl,rfl⟩) λu r z=>?_) hs;obtain⟨_,_,Y,x,rfl,rfl⟩:=z
 refine thn (kJ (i:=0) h0 n R c0 pins r σ _ (λc d=>c=.ref ea/\d=_) Y ⟨.ref ea,O,rfl,rfl⟩) λB s2 z=>?_
 obtain⟨_,_,W,y,rfl,rfl⟩:=z;obtain rfl:B=Value.ref ea:=y
 exact VD W Z J x λP E s3 G F U=>⟨σ,_,U,k P E G F⟩
end
def G7(P:Program)(w:World)(K:Frag)(mg:Str->Option Value)(base:Heap)(c name:Str)(k:Nat):Prop :=
 ∃(C a:Addr) (fd:FuncData) (d:List Str),mg c=some (.ref C)/\pO K C a name/\isFn K (.ref a)=true/\Binds K fd d []/\cj P w K mg base CX0 k a fd d (spI C name)
section
variable {Pr:Program}{w:World}{K:Frag}{mg:Str->Option Value}{base:Heap}
theorem VJ{c name qual d pn:Str}{st:Stmt}{C g:Addr}{fd:FuncData}{x u r q:Pos}(R:mg c=some (.ref C))(Z:pO K C g name)(O:isFn K (.ref g)=true)(F:Fun K "__init__" qual st g fd)(S:bQ [d,pn] [d,pn] (aX st))
  (P:∀(kV j pm:Value) (B:Option Addr) (a ct:Value) (us:List Value),us.length=[d,pn].length->bindArgs (PySem.W.fnOf "__init__" qual (fc st) (di st) (aX st) .none kV j pm B a ct) ⟨us,[]⟩=pure ([d,pn].zip us))
  (m:di st=[.Assign [.Attribute (.Name d x) name u] (.Name pn r) q]) (J:Vis (aX st) d) (I:Vis (aX st) pn) (U:(d == ("__debug__":Str))=false) (T:(pn == ("__debug__":Str))=false) (c0:(d == ("__classdict__":Str))=false) (Y:(pn == ("__classdict__":Str))=false)
  (hs:∀L f a,swapsWith (.Name pn r) (some (.Attribute (.Name d x) name u)) q.line (envOfC qual (aX st) L f a)=pure false):G7 Pr w K mg base c name 1:=by
 have n:=F.binds P;obtain⟨oc,od,kV,j,pmv,B,a,ct,osl,rfl,lk,l⟩:=F.ex;refine⟨C,g,_,_,R,Z,O,n,Dr lk l S (λG H Q E h=>?_) λA outer s H G Q E hr h=>?_⟩
 ·obtain⟨y,t,v,rfl,_⟩:=h;rfl
 ·obtain⟨y,t,v,rfl,e,k⟩:=h;rw[m];exact⟨_,Cz (VH (X:=f9 CX0 Pr w K mg base [d,pn] qual (aX st) g a A outer s H E) Z rfl rfl J I U T c0 Y (hs _ _ _)),y,t,v,rfl,rfl,e,k⟩
end
section
variable {prog:Program}{w:World}{A:Around}{E:Value->Shared->Prop}{s:Shared}{env:Env}
variable {nm q:Str}{C N:Addr}{bs bm:List Value}{hdct:Bool}{sn:List Str}{sub:List Value}{ab:Bool}{col:Option Bool}{dd:Option Addr}{k0 k1 k2 k3 k5:Option Value}{newId:String}
end
section
variable {X:Cx}{md:List Md}{P:Pt}{R:RR}
end
end L2
namespace L2
open PySem PySem.Spec PyProof.Rows PySem.W
def xcO(a:Obj):HO:=.frz a (.ext λ_=>True)
section
variable {X:Cx}{md:List Md}{P:Pt}{R:RR}{pins:List (Addr×Obj)}{σ:St}{H:Hp}{s:Shared}{ea:Addr}{oe:Obj}
end
end L2
namespace L2
open PySem PySem.Spec PyProof.Rows PySem.W PySem.Calls PySem.Builtin PySem.Builtin.ObjectAttr
section
variable {X:Cx}{md:List Md}{P:Pt}{R:RR}
theorem RlO.xc{K:Frag}{mg:Str->Option Value}{O:aq}{H F:Hp}{f:List Addr}{g C:Addr}{j:Obj}{c:Str}{fs:List (Str×D)}(r:RlO K mg O H F f)(m:H g=none)(J:mg c=some (.ref C))(G:j.cls=.ref C)(hd:∃B,j.data=.fields B)(E:XF K F f j.dict fs):
  RlO K mg (O++[.xc c fs]) (upd H g (xcO j)) F (f++[g])/\Gr H F f (upd H g (xcO j)) F (f++[g]):=by
 have at_:∀(n:Nat) (a:Addr),f[n]?=some a->(f++[g])[n]?=some a:=λn a h=>by
  rw[zB (zr.mp h).1];exact h
 have q:Gr H F f (upd H g (xcO j)) F f:=Gr.lay m;have x:RlO K mg O (upd H g (xcO j)) F f:=r.lay m;refine⟨⟨x.fh,x.fd,?_,by simp[r.len],λa d=>?_,λn a o d l=>?_⟩,⟨q.fz,q.ff,⟨[g],rfl,λa d=>by rw[zw.mp d];exact m⟩,λa o e d hd=>q.fr a o e d hd,q.dm,q.kz⟩⟩
 ·rw[jg];refine⟨r.nd,by simp,λa d b I=>?_⟩;rw[zw.mp I];intro z;subst z;exact r.all d m
 ·rcases zC.mp d with z | z
  ·exact r.fa a z
  ·rw[zw.mp z];exact r.frF m
 ·by_cases u:n<O.length
  ·rw[zB (by rw[r.len];exact u)] at d;rw[zB u] at l;exact(x.ob n a o d l).keep rfl (Same.refl _) at_
  ·have y:n=O.length:=by
    have:=(zr.mp l).1
    simp at this
    omega
   subst y;rw[zH (zc _),Nat.sub_self] at l;rw[<-r.len,zH (zc _),Nat.sub_self] at d;cases l;cases d;exact⟨C,j,_,J,bI,G,hd,E.mono (Same.refl _) at_⟩
end
section
variable {prog:Program}{w:World}{A:Around}{E:Value->Shared->Prop}{K:Frag}{a C:Addr}{o od:Obj}{h:Heap}{g:Array GenState}{d:Drawn}{t:Nat}{os:OsState}{name:Str}{v:Value}
end
section
variable {X:Cx}{md:List Md}{P:Pt}{R:RR}
def ISN(K:Frag)(mg:Str->Option Value)(T c:Str)(b:Bool):Prop:=∃C A,mg c=some (.ref C)/\wK K C/\mg T=some (.ref A)/\kitOne K (.ref C) (.ref A)=some b
def ISV(K:Frag)(mg:Str->Option Value)(c:Str):Prop:=∃C,mg c=some (.ref C)/\wK K C/\kitOne K (.ref C) (.type "ValueError")=some true
def G8(K:Frag)(mg:Str->Option Value)(ns:List Str)(c:Str)(b:Bool):Prop:=∃C a,mg c=some (.ref C)/\wK K C/\pM mg ns a/\kitAny K (.ref C) (a.map Value.ref)=some b
theorem FsR.at{K:Frag}{F:Hp}{j:List Addr}{f:Str}{d:D}:∀{fs:List (Str×D)}{gs:List (Str×V)},FsR K F j gs fs->fs.lookup f=some d->∃v,gs.lookup f=some v/\Rp K F j v d
 | [],gs,h,e=>by cases e
 | (g,y)::fs,gs,h,e=>by
  obtain⟨h1,h2⟩:=h
  cases gs with
  |nil=>cases h1
  |cons p gs =>
   obtain⟨c,x⟩:=p;have u:c=g:=(List.cons.inj h1).1;subst u;obtain⟨B,r,ex,n,q⟩:=Rps.un h2;cases ex
   by_cases a:(f == c)=true
   ·have e':some y=some d:=by
     simp only[List.lookup,a] at e;exact e
    cases e';exact⟨x,by simp only[List.lookup,a],n⟩
   ·have hf':(f == c)=false:=by simpa using a
    have e':fs.lookup f=some d:=by
     simp only[List.lookup,hf'] at e;exact e
    obtain⟨v,m,l⟩:=FsR.at (fs:=fs) (gs:=gs) ⟨(List.cons.inj h1).2,q⟩ e';exact⟨v,by simp only[List.lookup,hf'];exact m,l⟩
end
end L2
namespace L2
open PySem PySem.Spec PyProof.Rows PySem.W
def sH(A:Around):Around:={A with handled:=none}
theorem RoomH.deeper{k:Nat}{A:Around}(r:bj (k+1) (sH A))(env:Env):bj k (sH (A.deeper env)):=⟨rfl,(r.deeper env).dp,(r.deeper env).un⟩
theorem bj.h{k:Nat}{A:Around}(r:bj k A):bj k (sH A):=⟨rfl,r.dp,r.un⟩
structure wQ(P:Program)(w:World)(K:Frag)(mg:Str->Option Value)(base:Heap)(k:Nat)(f:Addr)(fd:FuncData)(ps:List Str)(sp:Sp):Prop where
 len:∀vs H Q E,sp vs H Q E->vs.length=ps.length
 run:∀(A:Around) (outer:List Env) (s:Shared) (H:Hp) (args:Args) (us:List Value) (vs:List V) (Q:VK) (E:XK),bj k (sH A)->fK P w K mg base A outer s H->BindsTo s fd args (ps.zip us)->aN vs us->sp vs H Q E ->
  codeAny (model P w) A (.call (.ref f) args) (CR CX0 outer P w H s Q E) s
theorem wQ.fn{P:Program}{w:World}{K:Frag}{mg:Str->Option Value}{base:Heap}{k:Nat}{f:Addr}{fd:FuncData}{ps:List Str}{sp:Sp}(F:wQ P w K mg base k f fd ps sp):cj P w K mg base CX0 k f fd ps sp:=⟨F.len,λA outer s H args c a Q E d=>F.run A outer s H args c a Q E d.h⟩
def G9(P:Program)(w:World)(K:Frag)(mg:Str->Option Value)(base:Heap)(x:Str)(ps:List Str)(k:Nat)(sp:Sp):Prop :=
 ∃f fd,mg x=some (.ref f)/\keepIn K (.ref f)=true/\Binds K fd ps []/\wQ P w K mg base k f fd ps sp/\∃d c a,K.lookup f=some ⟨d,c,.func fd,a⟩
section
variable {Pr:Program}{w:World}{K:Frag}{mg:Str->Option Value}{base:Heap}
theorem G9.can{x:Str}{ps:List Str}{k:Nat}{sp:Sp}(C:G9 Pr w K mg base x ps k sp):Can Pr w K mg base x ps k sp:=by
 obtain⟨f,fd,h1,h2,h3,h4,a⟩:=C;exact⟨f,fd,h1,h2,h3,h4.fn,a⟩
end
section
variable {X:Cx}{md:List Md}{P:Pt}{R:RR}
end
section
variable {X:Cx}{md:List Md}{P:Pt}{R:RR}
end
theorem ISN.nm{K:Frag}{mg:Str->Option Value}{T c:Str}{b:Bool}(h:ISN K mg T c b):∃A,mg T=some (.ref A):=let ⟨_,A,_,_,e,_⟩:=h;⟨A,e⟩
theorem G8.nm{K:Frag}{mg:Str->Option Value}{ns:List Str}{c:Str}{b:Bool}(h:G8 K mg ns c b):∃a,pM mg ns a:=let ⟨_,a,_,_,e,_⟩:=h;⟨a,e⟩
theorem ISV.tb{K:Frag}{mg:Str->Option Value}{c:Str}(h:ISV K mg c):true=true/\ISV K mg c:=⟨rfl,h⟩
def Ha(K:Frag)(mg:Str->Option Value)(c name qual:Str)(st:Stmt):Prop:=∃C a fd,mg c=some (.ref C)/\pO K C a name/\isFn K (.ref a)=true/\Fun K "__init__" qual st a fd
theorem Ha.can{G:Program}{w:World}{K:Frag}{mg:Str->Option Value}{base:Heap}{c name qual a pn:Str}{st:Stmt}{q n m l:Pos}(h:Ha K mg c name qual st)(S:bQ [a,pn] [a,pn] (aX st))
  (x:∀(kV j pm:Value) (F:Option Addr) (d ct:Value) (us:List Value),us.length=[a,pn].length->bindArgs (PySem.W.fnOf "__init__" qual (fc st) (di st) (aX st) .none kV j pm F d ct) ⟨us,[]⟩=pure ([a,pn].zip us))
  (g:di st=[.Assign [.Attribute (.Name a q) name n] (.Name pn m) l]) (u:Vis (aX st) a) (r:Vis (aX st) pn) (hs:∀L f d,swapsWith (.Name pn m) (some (.Attribute (.Name a q) name n)) l.line (envOfC qual (aX st) L f d)=pure false)
  (B:(a == ("__debug__":Str))=false:=by decide) (y:(pn == ("__debug__":Str))=false:=by decide) (c0:(a == ("__classdict__":Str))=false:=by decide) (E:(pn == ("__classdict__":Str))=false:=by decide):G7 G w K mg base c name 1:=by
 obtain⟨C,H,fd,h1,h2,h3,h4⟩:=h;exact VJ h1 h2 h3 h4 S x g u r B y c0 E hs
section
variable {X:Cx}{md:List Md}{P:Pt}{R:RR}
end
def Hb(P:Program)(w:World)(K:Frag)(mg:Str->Option Value)(base:Heap)(c:Str)(ps:List Str)(k:Nat)(sp:Sp):Prop :=
 ∃C f fd,mg c=some (.ref C)/\Mk K C f/\Binds K fd ps []/\cj P w K mg base (CXF P w) k f fd ps sp
section
variable {Pr:Program}{w:World}{K:Frag}{mg:Str->Option Value}{base:Heap}
theorem Hb.can{c:Str}{ps:List Str}{k:Nat}{pm:List Md}{R:RR}{a:List D->aq->Res D}(C:Hb Pr w K mg base c ps k (pN K mg pm R a))(d:pm.length=ps.length:=by rfl):rJ Pr w K mg base c ps k (vSp K mg pm R a):=by
 obtain⟨C,f,fd,h1,h2,g,j⟩:=C;exact⟨C,f,fd,h1,h2,g,wM j d⟩
end
theorem RlO.ins{K:Frag}{mg:Str->Option Value}{O:aq}{H F:Hp}{j:List Addr}{x f C:Addr}{c:Str}(l:RlO K mg O H F j)(I:mg c=some (.ref C))(u:H x=none)(r:H f=none)(B:f≠x):
  RlO K mg (O++[.ins c []]) (upd (upd H f (.own x)) x (.ins C f [])) F (j++[x])/\Gr H F j (upd (upd H f (.own x)) x (.ins C f [])) F (j++[x])/\Rp K F (j++[x]) (.ref x) (.ob O.length):=by
 have q:upd H f (.own x) x=none:=by rw[aL B.symm];exact u
 have g:Gr H F j (upd (upd H f (.own x)) x (.ins C f [])) F j:=(Gr.lay r).trans (Gr.lay q)
 have nx:x∉j:=λz=>l.all z u
 have y:=(l.lay (o:=.own x) r).lay (o:=.ins C f []) q
 have at_:∀(n:Nat) (a:Addr),j[n]?=some a->(j++[x])[n]?=some a:=λn a h=>by
  rw[zB (zr.mp h).1];exact h
 refine⟨⟨y.fh,y.fd,?_,by simp[l.len],λa d=>?_,λn a o d m=>?_⟩,⟨g.fz,g.ff,⟨[x],rfl,λa d=>by rw[zw.mp d];exact u⟩,λa o e d hd=>g.fr a o e d hd,g.dm,g.kz⟩,Rp.mkO (by rw[<-l.len,zH (zc _),Nat.sub_self];rfl)⟩
 ·rw[jg];refine⟨l.nd,by simp,λa d b G=>?_⟩;rw[zw.mp G];intro z;subst z;exact nx d
 ·rcases zC.mp d with z | z
  ·exact l.fa a z
  ·rw[zw.mp z];exact l.frF u
 ·by_cases E:n<O.length
  ·rw[zB (by rw[l.len];exact E)] at d;rw[zB E] at m;exact(y.ob n a o d m).keep rfl (Same.refl _) at_
  ·have hn':n=O.length:=by
    have:=(zr.mp m).1
    simp at this
    omega
   subst hn';rw[zH (zc _),Nat.sub_self] at m;rw[<-l.len,zH (zc _),Nat.sub_self] at d;cases m;cases d;exact⟨C,f,[],I,bI,⟨rfl,Rps.nil⟩⟩
section
variable {X:Cx}{md:List Md}{P:Pt}{k:Nat}{c:Str}{ps:List Str}{p pos:Pos}{e:Expr}{es:List Expr}{pm:List Md}{cf:List D->aq->Res D}{ma:M (List D)}
end
end L2
namespace L2
open PySem PySem.Spec PyProof.Rows PySem.W PySem.Calls
section
variable {prog:Program}{w:World}{A:Around}{E:Value->Shared->Prop}{s:Shared}{R:Result->Shared->Prop}
end
section
variable {X:Cx}{md:List Md}{P:Pt}{R:RR}
structure QzS(mg:Str->Option Value):Prop extends Blt mg where
 any_:mg "any" = none
end
end L2
namespace L2
open PySem PySem.Spec PyProof.Rows PySem.W
section
variable {X:Cx}{pins:List (Addr×Obj)}{σ:St}{H:Hp}{s:Shared}{a:Addr}{xs:List (Key×V)}
end
section
variable {K:Frag}{mg:Str->Option Value}{O:aq}{H F:Hp}{as:List Addr}
theorem RlO.kf{n:Nat}{a:Addr}{kvs:List (Key×D)}(r:RlO K mg O H F as)(c:as[n]?=some a)(d:O[n]?=some (.kf kvs)):∃o xs,H a=some (.frz o (.dK xs))/\DkR K F as xs kvs:=let ⟨o,xs,h1,h2,h3⟩:=r.ob n a _ c d;⟨o,xs,h1,h2,h3⟩
end
section
variable {X:Cx}{md:List Md}{P:Pt}{R:RR}
end
section
variable {prog:Program}{w:World}{A:Around}{E:Value->Shared->Prop}{s:Shared}
end
section
variable {X:Cx}{md:List Md}{P:Pt}{R:RR}
end
structure wR(P:Program)(w:World)(K:PySem.W.Frag)(mg:Str->Option Value)(base:Heap)(k:Nat)(f:Addr)(fd:FuncData)(ps:List Str)(sp:Sp):Prop where
 len:∀vs H Q E,sp vs H Q E->vs.length=ps.length
 run:∀(A:Around) (outer:List Env) (s:Shared) (H:Hp) (args:Args) (us:List Value) (vs:List V) (Q:VK) (E:XK),bj k A->fK P w K mg base A outer s H->BindsTo s fd args (ps.zip us)->aN vs us->sp vs H Q E ->
  codeAny (model P w) A (.call (.ref f) args) (λr s'=>1<=s'.toks/\CR CX0 outer P w H s Q E r s') s
theorem wR.ok{P:Program}{w:World}{K:PySem.W.Frag}{mg:Str->Option Value}{base:Heap}{k:Nat}{f:Addr}{fd:FuncData}{ps:List Str}{sp:Sp}(F:wR P w K mg base k f fd ps sp):cj P w K mg base CX0 k f fd ps sp :=
 ⟨F.len,λA outer s H args c a Q E j l m d g=>codeAny_mono (F.run A outer s H args c a Q E j l m d g) λ_ _ q=>q.2⟩
def Hc(P:Program)(w:World)(K:PySem.W.Frag)(mg:Str->Option Value)(base:Heap)(x:Str)(ps:List Str)(k:Nat)(sp:Sp):Prop :=
 ∃f fd,mg x=some (.ref f)/\PySem.W.keepIn K (.ref f)=true/\Binds K fd ps []/\wR P w K mg base k f fd ps sp/\∃d c a,K.lookup f=some ⟨d,c,.func fd,a⟩
theorem Hc.can{P:Program}{w:World}{K:PySem.W.Frag}{mg:Str->Option Value}{base:Heap}{x:Str}{ps:List Str}{k:Nat}{sp:Sp}(c:Hc P w K mg base x ps k sp):Can P w K mg base x ps k sp :=
 let ⟨f,fd,a,b,d,e,g⟩:=c;⟨f,fd,a,b,d,e.ok,g⟩
section
variable {Pr:Program}{w:World}{K:Frag}{mg:Str->Option Value}{base:Heap}
end
section
variable {X:Cx}{md:List Md}{P:Pt}{R:RR}
end
section
variable {X:Cx}{md:List Md}{P:Pt}{R:RR}
end
section
variable {prog:Program}{w:World}{A:Around}{E:Value->Shared->Prop}{s:Shared}
end
section
variable {X:Cx}{md:List Md}{P:Pt}{R:RR}
end
section
variable {prog:Program}{w:World}{A:Around}{E:Value->Shared->Prop}{s:Shared}
end
section
variable {X:Cx}{pins:List (Addr×Obj)}{σ:St}{H:Hp}{s:Shared}{a:Addr}
end
section
variable {X:Cx}{md:List Md}{P:Pt}{R:RR}
end
section
variable {prog:Program}{w:World}{A:Around}{E:Value->Shared->Prop}{s:Shared}
structure ZT(h:Heap)(z TI TO i1 i2 l1 l2 k1 k2:Nat)(xs ys:Array Value):Prop where
 z:IsZip h z TI TO .none
 ti:IsPair h TI (.ref i1) (.ref i2)
 to:∃a b,IsPair h TO a b
 h1:h.IsTupleIter i1 l1 k1
 h2:h.IsTupleIter i2 l2 k2
 t1:h.IsTuple l1 xs
 t2:h.IsTuple l2 ys
end
section
variable {prog:Program}{w:World}{A:Around}{E:Value->Shared->Prop}{s:Shared}
end
section
variable {X:Cx}{md:List Md}{P:Pt}{R:RR}{elts:List Expr}{x1:Nat}{tpos:Pos}
end
abbrev KN(K:Frag)(H:Hp):List (NK×V)->List (NK×Addr×Value)->Prop:=Paired λp q=>p.1=q.1/\NAt K H p.1 q.2.1/\RelV p.2 q.2.2
theorem KN.val{K:Frag}{H:Hp}{kvs:List (NK×V)}{xs:List (NK×Addr×Value)}(r:KN K H kvs xs)(k:NK):dD (cI kvs k) ((atKey xs k).map (·.2)):=by
 induction r with
 |nil=>exact True.intro
 | @cons p q ps qs h t ih =>
  obtain⟨h1,_,h2⟩:=h
  by_cases e:p.1=k
  ·have e':q.1=k:=h1.symm.trans e
   have b:atKey (q::qs) k=some q.2:=by simp[atKey,List.find?_cons,e']
   rw[lr e,b];exact h2
  ·have e':¬q.1=k:=λz=>e (h1.trans z)
   have b:atKey (q::qs) k=atKey qs k:=by simp[atKey,List.find?_cons,e']
   rw[lu e,b];exact ih
theorem KN.repl{K:Frag}{H:Hp}{kvs:List (NK×V)}{xs:List (NK×Addr×Value)}(r:KN K H kvs xs)(k:NK){y:V}{u:Value}(a:RelV y u):
  KN K H (kvs.map λkv=>if kv.1=k then(kv.1,y) else kv) (xs.map (putAt k u)):=by
 induction r with
 |nil=>exact .nil
 | @cons p q ps qs h t ih =>
  rw[zd,zd];refine .cons ?_ ih;obtain⟨h1,h2,h3⟩:=h;unfold putAt
  by_cases e:p.1=k
  ·rw[if_pos e,if_pos (h1.symm.trans e)];exact⟨h1,h2,a⟩
  ·rw[if_neg e,if_neg (λz=>e (h1.trans z))];exact⟨h1,h2,h3⟩
theorem KN.put{K:Frag}{H:Hp}{kvs:List (NK×V)}{xs:List (NK×Addr×Value)}(r:KN K H kvs xs)(k:NK){b:Addr}{y:V}{u:Value}(c:NAt K H k b)(a:RelV y u):
  KN K H (putK kvs k y) (storedH xs k b u):=by
 have e:(kvs.any λkv=>decide (kv.1=k))=(atKey xs k).isSome:=by
  rw[qQ,(r.val k).isSome_eq,Option.isSome_map]
 unfold putK storedH;rw[e]
 by_cases q:(atKey xs k).isSome=true
 ·rw[if_pos q,if_pos q];exact r.repl k a
 ·rw[if_neg q,if_neg q];exact Paired.snoc r ⟨rfl,c,a⟩
theorem KN.keeps{K:Frag}{H a:Hp}{kvs:List (NK×V)}{xs:List (NK×Addr×Value)}(r:KN K H kvs xs)(c:∀b ys,H b=some (.tup ys)->a b=some (.tup ys)):KN K a kvs xs :=
 Paired.mapP r λ_ _ z=>⟨z.1,z.2.1.mono c,z.2.2⟩
section
variable {P:Program}{w:World}{H:Hp}{h:Heap}{a:Addr}{K:Frag}
theorem wU{k:NK}(ok:HOk P w H h)(kin:K.In h)(e:NAt K H k a):(mF P w).is h k a:=by
 obtain⟨c,L,f⟩:=e;obtain⟨_,g,r,o,h1,h2,n,h3⟩:=(show bW P w H h a (.tup [.int k.1,.ref c]) from ok a _ L);have r':aN [.int k.1,.ref c] g:=r
 cases r' with
 | @cons _ u _ us r1 r2 =>
  cases r2 with
  | @cons _ u2 _ us2 r3 r4 =>
   cases r4;obtain rfl:u2=Value.ref c:=r3;refine⟨o,_,n,u,c,h1,h2,h3,by simp,qR (k:=.inl k.1) r1,?_⟩
   rcases f with f | ⟨y,j,C,J,I,G,O,F⟩
   ·obtain⟨_,d,q,B,x,m,E,l⟩:=(show bW P w H h c (.tup (k.2.map kV)) from ok c _ f);exact⟨B,d.toArray,E,x,m,l,by simpa using qT q⟩
   ·exact⟨y,j,C,kin _ _ J,I,G,qT F⟩
theorem wV{kvs:List (NK×V)}(ok:HOk P w H h)(kin:K.In h)(e:Rd H a (.dN K kvs)):kvs.length<=sizeLine/\(a == sysModules)=false /\
  ∃xs,KN K H kvs xs/\h.DictOfH (mF P w) a xs:=by
 obtain⟨z,y,xs,r,o,f,g,h1,h2,h3,h4,d⟩:=(show bW P w H h a (.dN K kvs) from vI ok e);refine⟨z,y,xs,r,o,f,g,h1,h2,h3,h4,λx c=>?_,d⟩
 have all:∀{l:List (NK×V)}{m:List (NK×Addr×Value)},KN K H l m->∀x∈m,(mF P w).is h x.1 x.2.1:=by
  intro l m q
  induction q with
  |nil=>intro x c;exact nomatch c
  | @cons p q ps qs hq t ih =>
   intro x c
   rcases zp.mp c with e | c
   ·subst e;exact wU ok kin (by rw[<-hq.1];exact hq.2.1)
   ·exact ih x c
 exact all r x c
end
theorem Hd{P:Program}{w:World}{A:Around}(a:A.units+6<cLine):(mF P w).room A.in1:=by
 show A.units+1+4<cLine;omega
theorem n6{A:Around}{k:Nat}(a:bj k A):A.units+6<cLine:=Nat.lt_of_le_of_lt (Nat.add_le_add_left (by decide:6<=64) _) a.units
def wW(K:Frag)(H:Hp)(a:Addr)(y:V)(r:Option V):Prop:=∃kvs k b,Rd H a (.dN K kvs)/\y=.ref b/\NAt K H k b/\r=cI kvs k
section
variable {X:Cx}{pins:List (Addr×Obj)}{σ:St}{H:Hp}{s:Shared}{a:Addr}{y v:V}{u r:Value}{o:Option V}{A:Around}{E:Value->Shared->Prop}
theorem VL{Q:Value->Shared->Prop}(x:A.units+6<cLine)(I:Inv X pins σ H s)(g:wW X.K H a y (some v))(n:RelV y u)(h:∀c j,Inv X pins σ H j->RelV v c->Q c j):
  wpAny (model X.prog X.w) A (getItem (.ref a) u) Q E s:=by
 obtain⟨kvs,k,b,e,C,F,l⟩:=g;subst C;cases(show u=Value.ref b from n);obtain⟨z,hd,m,rel,G⟩:=wV I.hok I.kIn e;obtain⟨c,q,d⟩:=dD.some_of (v:=v) (o:=(atKey m k).map (·.2)) (by rw[l];exact rel.val k);obtain⟨p,B,f⟩:=jp.mp q;refine wpAny_getItem_heap (Hd x) (wU I.hok I.kIn F) G B ?_;rw[f];exact h c _ (I.tok _) d
theorem VM(I:Inv X pins σ H s)(g:wW X.K H a y o):∃ob,s.heap.get? a=some ob/\ob.cls=.type "dict":=by
 obtain⟨kvs,k,b,e,d,f,l⟩:=g;obtain⟨_,_,c,_,ob,_,_,h1,h2,_⟩:=wV I.hok I.kIn e;exact⟨ob,h1,h2.1⟩
theorem VN{Q:Unit->Shared->Prop}{kvs:List (NK×V)}{k:NK}{b:Addr}(B:A.units+6<cLine)(I:Inv X pins σ H s)(e:H a=some (.dN X.K kvs))(m:NAt X.K H k b)(l:kvs.length<sizeLine)(rv:RelV v r)(h:∀f,Inv X pins σ (upd H a (.dN X.K (putK kvs k v))) f->Q () f):
  wpAny (model X.prog X.w) A (setItem (.ref a) (.ref b) r) Q E s:=by
 obtain⟨z,hd,n,rel,O⟩:=wV I.hok I.kIn (.inl e)
 have x:n.length<=sizeLine:=by rw[<-Paired.length rel];exact z
 have F:(putK kvs k v).length<=sizeLine:=by have:=DQ kvs k v;omega
 refine wpAny_setItem_heap (hsz:=x) (Hd B) (wU I.hok I.kIn m) O λR d C=>h _ ?_
 obtain⟨q,J,L,g,h2,h3,h4,_,G⟩:=d;refine DX I (by rw[e];exact True.intro) C ⟨q,g⟩ ⟨F,hd,_,(rel.put k m rv).keeps λc P j=>?_,q,J,L,g,h2,h3,h4,G⟩;rw[aL (ne_of j e (λz=>nomatch z))];exact j
end
def VP(K:Frag)(d ty:TE):TE:=λσ H Q=>d σ H λx f=>ty σ f λy c=>∃a v,x=.ref a/\wW K c a y (some v)/\Q v c
def VR(K:Frag)(f ty d:TE):TS:=λD σ H=>d σ H λv j=>f σ j λx g=>ty σ g λy c=>∃a kvs k b,x=.ref a/\y=.ref b/\c a=some (.dN K kvs)/\NAt K c k b/\kvs.length<sizeLine/\D.nx σ (upd c a (.dN K (putK kvs k v)))
def V0(K:Frag):TE:=λ_ H Q=>∀p,H p=none->Q (.ref p) (upd H p (.dN K []))
section
variable {X:Cx}{o i e value:Expr}{pos pos' tpos:Pos}{td ty tv:TE}
theorem V1(d:X.A.units+6<cLine)(f:PE X o td)(j:PE X i ty)(hs:DY i):PE X (.Subscript o i pos) (VP X.K td ty):=by
 intro pins s σ H Q I h;refine Rj PySem.F.slot_dict_getitem.lookup hs (thn (f pins s σ H _ I h) λu s1 ⟨x,H1,I1,rx,q1⟩=>thn (j pins s1 σ H1 _ I1 q1) λiv s2 ⟨y,H2,I2,ry,a,v,ex,g,q2⟩=>?_);subst ex;obtain rfl:u=Value.ref a:=rx;exact⟨VM I2 g,VL d I2 g ry λm n l c=>⟨v,H2,l,c,q2⟩⟩
theorem V2(c:X.A.units+6<cLine)(d:PE X o td)(f:PE X i ty)(hv:PE X value tv)(hs:swapsWith value (some (.Subscript o i pos')) pos.line X.env=pure false):
  PS X (.Assign [.Subscript o i pos'] value pos) (VR X.K td ty tv):=by
 intro pins s σ H D I h;refine wpAny_Assign_Subscript (thn (hv pins s σ H _ I h) λr s1 ⟨v,H1,I1,rv,q1⟩=>thn (d pins s1 σ H1 _ I1 q1) λu s2 ⟨x,H2,I2,rx,q2⟩=>thn (f pins s2 σ H2 _ I2 q2) λiv s3 ⟨y,H3,I3,ry,a,kvs,k,b,ex,ey,e,eb,l,q3⟩=>?_) hs;subst ex ey;obtain rfl:u=Value.ref a:=rx;obtain rfl:iv=Value.ref b:=ry
 exact VN c I3 e eb l rv λj g=>⟨σ,_,g,q3⟩
theorem V3:PE X (.Dict [] [] pos) (V0 X.K):=λpins s σ H Q I h =>
 wpAny_Dict_empty ⟨.ref s.heap.objs.size,_,I.laid (a:=s.heap.objs.size) (o:=.dN X.K []) (t':=s.toks) (λ_ _ q=>zl _ q) (zc _)
  (show bW X.prog X.w _ _ _ (.dN X.K []) from⟨Nat.zero_le _,beq_eq_false_iff_ne.mpr (Ne.symm (zo I.big)),[],.nil,_,#[],0,zx _ rfl,⟨rfl,rfl,rfl⟩,rfl,rfl,List.nodup_nil⟩),rfl,h _ (I.hok.fresh (zc _))⟩
end
section
variable {X:Cx}{pins:List (Addr×Obj)}{σ:List (Option V)}{H:Hp}{s:Shared}{a:Addr}{xs:List (NK×V)}{o:Obj}
theorem Inv.base0N(I:Inv X pins σ H s)(e:H a=some (.dN X.K xs)):∀o u,X.H₀ a≠some (.frz o u):=λo u z=>by
 have:=I.base.frzs a o u z
 rw[e] at this;cases this
theorem Inv.freezeN(I:Inv X pins σ H s)(e:H a=some (.dN X.K xs)):∃o,s.heap.get? a=some o/\Inv X pins σ (upd H a (.frz o (.dN X.K xs))) s:=by
 have d:=I.hok a _ e
 obtain⟨o,f⟩:∃u,s.heap.get? a=some u:=by
  obtain⟨_,_,_,_,_,_,_,z,_⟩:=d;exact⟨_,z⟩
 refine⟨o,f,I.reword (by rw[e];exact λz=>nomatch z) (by rw[e];exact λ_ z=>nomatch z) (by rw[e];exact λ_ z=>nomatch z) (by rw[e];exact λ_ z=>nomatch z) (I.base0N e) ⟨f,?_⟩⟩
 exact bW.stay d (λ_ _ _ z=>z) (λc z=>by rw[aL (λq=>by rw[q,e] at z;cases z)];exact z) λc g z=>by rw[aL (λq=>by rw[q,e] at z;cases z)];exact z
theorem Inv.thawN(I:Inv X pins σ H s)(e:H a=some (.frz o (.dN X.K xs)))(f:∀o u,X.H₀ a≠some (.frz o u)):Inv X pins σ (upd H a (.dN X.K xs)) s:=by
 obtain⟨j,d⟩:=(show bW X.prog X.w H s.heap a (.frz o (.dN X.K xs)) from I.hok a _ e);refine I.reword (by rw[e];exact λz=>nomatch z) (by rw[e];exact λ_ z=>nomatch z) (by rw[e];exact λ_ z=>nomatch z) (by rw[e];exact λ_ z=>nomatch z) f ?_
 exact bW.stay d (λ_ _ _ z=>z) (λc z=>by rw[aL (λq=>by rw[q,e] at z;cases z)];exact z) λc g z=>by rw[aL (λq=>by rw[q,e] at z;cases z)];exact z
end
def wX(K:Frag)(a:Addr)(o:Obj):It :=
 ⟨λi H=>∃c:List (NK×V),H a=some (.frz o (.dN K c))/\i<c.length,
  λi H x d=>d=H/\∀c:List (NK×V),H a=some (.frz o (.dN K c))->∃b p,x=.ref b/\c[i]?=some p/\NAt K H p.1 b,
  λi H=>∃c:List (NK×V),H a=some (.frz o (.dN K c))/\c.length<=i⟩
theorem wY{X:Cx}{pins:List (Addr×Obj)}{σ:St}{H:Hp}{s:Shared}{a:Addr}{o:Obj}{ys:List (NK×V)}(I:Inv X pins σ H s)(e:H a=some (.frz o (.dN X.K ys))):
  s.heap.get? a=some o/\(a == sysModules)=false/\o.ExactDict/\∃es ep,o.data=.dict es ep/\es.size=ys.length/\∀(i:Nat) (h:i<es.size),∃b p,es[i].key=.ref b/\ys[i]?=some p/\NAt X.K H p.1 b:=by
 obtain⟨h1,z,y,c,r,n,es,ep,h2,h3,h4,j,x⟩:=(show bW X.prog X.w H s.heap a (.frz o (.dN X.K ys)) from I.hok a _ e);rw[h1] at h2;cases h2
 have u:es.size=c.length:=by rw[<-Array.length_toList,j,zf]
 have q:ys.length=c.length:=r.length;refine⟨h1,y,h3,es,ep,h4,by omega,λi l=>?_⟩
 have g:i<c.length:=by omega
 have f:i<ys.length:=by omega
 have d:es.toList[i]?=some (entryOfKey (mF X.prog X.w) c[i]):=by rw[j,zD,zu g];rfl
 rw[Array.getElem?_toList,Array.getElem?_eq_getElem l] at d;have m:=UV r (zu f) (zu g);refine⟨c[i].2.1,ys[i],?_,zu f,m.2.1⟩
 injection d with d
 rw[d];rfl
theorem V4{P:Program}{w:World}{K:Frag}{tg:Expr}(a it:Addr)(o:Obj)(es:Array DictEntry)(ep:Nat)(hd:o.data=.dict es ep):Turn P w K tg (wX K a o) [it] it (λi h=>h.IsKeyIter it a i es.size ep) where
 mem:=by simp
 obj:=λi h st b hb=>by
  have e:b=it:=by simpa using hb
  subst e;obtain⟨o,e,c,d⟩:=st;exact⟨o,e,λv z=>by rw[d] at z;cases z⟩
 keep:=λi h h' st k=>st.at λo e=>k it (by simp) o e
 item:=by
  intro X hP hw hK hc i pins s σ H E I hf st hg;subst hP hw hK;obtain⟨ys,hq,hlt⟩:=hg;obtain⟨q1,q2,q3,es',ep',q4,q5,q6⟩:=wY I hq;rw[hd] at q4;cases q4;obtain⟨f0,f1,f2,f3,f4,f5⟩:=hf it (by simp)
  have hi:i<es.size:=by omega
  refine UL st q1 hd rfl hi λh' st' sb=>?_
  have I1:Inv X pins σ H {s with heap:=h'}:=I.turned (t':=s.toks) (λb o hb e=>(sb.2 b hb).trans e) f0 f1 f3 f4 f5;obtain⟨b,p,k1,k2,k3⟩:=q6 i hi;rw[k1];obtain⟨o2,e,c,d⟩:=id st';refine⟨_,rfl,mH (s:={s with heap:=h'}) e c d (by decide) ⟨.ref b,H,I1,rfl,⟨rfl,λzs hz=>?_⟩,st',λb hb=>(hf b hb).1⟩⟩;rw[hq] at hz;cases hz;exact⟨b,p,rfl,k2,k3⟩
 done:=by
  intro X hP hw hK hc i pins s σ H E I hf st hg;subst hP hw hK;obtain⟨ys,hq,hge⟩:=hg;obtain⟨q1,q2,q3,es',ep',q4,q5,q6⟩:=wY I hq;rw[hd] at q4;cases q4;obtain⟨f0,f1,f2,f3,f4,f5⟩:=hf it (by simp)
  exact UT (I.ok.hd hc) st q1 hd rfl (by omega) λh' eb=>⟨rfl,I.turned (t':=s.toks) (λb o hb e=>eb b o hb e) f0 f1 f3 f4 f5⟩
 self:=λ_ _ _ _ _ st h=>wpAny_pyIter_keyiter st h
def V5(K:Frag)(tl:TE):TI:=λσ H R=>tl σ H λx d=>∃a c,x=.ref a/\d a=some (.dN K c)/\∀o,R (wX K a o) (upd d a (.frz o (.dN K c)))
theorem V6{X:Cx}{j l:Expr}{tl:TE}(u:PE X l tl):PI X j l (V5 X.K tl):=by
 intro pins s σ H R I h
 refine thn (u pins s σ H _ I h) λv s1 ⟨x,H1,I1,r1,d⟩=>?_
 obtain⟨a,g,e,r,q⟩:=d;subst e;cases r1;obtain⟨o,G,c⟩:=I1.freezeN r;obtain⟨d,n,m,B,C,f,F,E⟩:=wY c bI;refine UJ n d m f ?_;refine⟨s1.heap.objs.size,[s1.heap.objs.size],_,_,upd H1 a (.frz o (.dN X.K g)),rfl,c.kept (t':=s1.toks) λb o e=>zl _ e,V4 a _ o B C f,⟨_,zx _ rfl,rfl,rfl⟩,λb y=>?_,q o⟩
 have e:b=s1.heap.objs.size:=by simpa using y
 subst e;exact c.fpOk (zc _) (c.hok.fresh (zc _))
def valN(kvs:List (NK×D))(k:NK):Option D:=(kvs.find? λp=>decide (p.1=k)).map (·.2)
def putN(kvs:List (NK×D))(k:NK)(d:D):List (NK×D):=
 if(kvs.any λp=>decide (p.1=k))=true then kvs.map (λp=>if p.1=k then(p.1,d) else p) else kvs++[(k,d)]
def DnR(K:Frag)(F:Hp)(a:List Addr)(xs:List (NK×V))(kvs:List (NK×D)):Prop:=xs.map (·.1)=kvs.map (·.1)/\Rps K F a (xs.map (·.2)) (kvs.map (·.2))
section
variable {K:Frag}{mg:Str->Option Value}{O:aq}{H F H' F':Hp}{as as':List Addr}
theorem DnR.len{xs:List (NK×V)}{kvs:List (NK×D)}(h:DnR K F as xs kvs):xs.length=kvs.length:=by
 have:=congrArg List.length h.1
 simpa using this
theorem DnR.un{xs:List (NK×V)}{p:NK×D}{kvs:List (NK×D)}(h:DnR K F as xs (p::kvs)):∃v r,xs=(p.1,v)::r/\Rp K F as v p.2/\DnR K F as r kvs:=by
 obtain⟨h1,h2⟩:=h
 cases xs with
 |nil=>cases h1
 |cons x r =>
  obtain⟨v,f,e,d,c⟩:=h2.un;cases e;rw[zd,zd] at h1;have a:=(List.cons.inj h1).1;refine⟨x.2,r,?_,d,(List.cons.inj h1).2,c⟩;rw[<-a]
theorem DnR.val{k:NK}:∀{kvs:List (NK×D)}{xs:List (NK×V)},DnR K F as xs kvs->(valN kvs k=none/\cI xs k=none)\/∃d v,valN kvs k=some d/\cI xs k=some v/\Rp K F as v d
 | [],xs,h=>by
  have:=h.len
  cases xs with
  |nil=>exact .inl ⟨rfl,rfl⟩
  |cons=>cases this
 |p::kvs,xs,h=>by
  obtain⟨v,r,rfl,h1,h2⟩:=h.un
  by_cases e:p.1=k
  ·exact .inr ⟨p.2,v,by simp[valN,List.find?_cons,e],lr e,h1⟩
  ·rw[show valN (p::kvs) k=valN kvs k by simp[valN,List.find?_cons,e],lu (p:=(p.1,v)) e];exact DnR.val h2
theorem DnR.any{k:NK}:∀{kvs:List (NK×D)}{xs:List (NK×V)},DnR K F as xs kvs->(xs.any λp=>decide (p.1=k))=kvs.any λp=>decide (p.1=k)
 | [],xs,h=>by
  have:=h.len
  cases xs with
  |nil=>rfl
  |cons=>cases this
 |p::kvs,xs,h=>by
  obtain⟨v,r,rfl,h1,h2⟩:=h.un;rw[List.any_cons,List.any_cons,DnR.any h2]
theorem DnR.repl{k:NK}{v:V}{d:D}(hv:Rp K F as v d):∀{kvs:List (NK×D)}{xs:List (NK×V)},DnR K F as xs kvs ->
  DnR K F as (xs.map λp=>if p.1=k then(p.1,v) else p) (kvs.map λp=>if p.1=k then(p.1,d) else p)
 | [],xs,h=>by
  have:=h.len
  cases xs with
  |nil=>exact⟨rfl,Rps.nil⟩
  |cons=>cases this
 |p::kvs,xs,h=>by
  obtain⟨u,r,rfl,h1,h2⟩:=h.un;obtain⟨c,a⟩:=DnR.repl (k:=k) hv h2
  by_cases e:p.1=k
  ·rw[zd,zd,if_pos e,if_pos e];exact⟨by rw[zd,zd,c],Rps.cons hv a⟩
  ·rw[zd,zd,if_neg e,if_neg e];exact⟨by rw[zd,zd,c],Rps.cons h1 a⟩
theorem DnR.put{xs:List (NK×V)}{kvs:List (NK×D)}(h:DnR K F as xs kvs)(k:NK){v:V}{d:D}(hv:Rp K F as v d):DnR K F as (putK xs k v) (putN kvs k d):=by
 unfold putK putN;rw[h.any]
 split
 ·exact h.repl hv
 ·exact⟨by rw[zI,zI,h.1];rfl,by rw[zI,zI];exact Rps.snoc h.2 hv⟩
theorem DnR.mono{xs:List (NK×V)}{kvs:List (NK×D)}(h:DnR K F as xs kvs)(e:Same F F')(c:∀(n:Nat) (a:Addr),as[n]?=some a->as'[n]?=some a):DnR K F' as' xs kvs:=⟨h.1,Rps.mono e c _ h.2⟩
theorem RlO.dn{n:Nat}{a:Addr}{kvs:List (NK×D)}(r:RlO K mg O H F as)(c:as[n]?=some a)(d:O[n]?=some (.dn kvs)):∃xs,H a=some (.dN K xs)/\DnR K F as xs kvs:=let ⟨xs,h1,h2,h3⟩:=r.ob n a _ c d;⟨xs,h1,h2,h3⟩
theorem RlO.nf{n:Nat}{a:Addr}{kvs:List (NK×D)}(r:RlO K mg O H F as)(c:as[n]?=some a)(d:O[n]?=some (.nf kvs)):∃o xs,H a=some (.frz o (.dN K xs))/\DnR K F as xs kvs:=let ⟨o,xs,h1,h2,h3⟩:=r.ob n a _ c d;⟨o,xs,h1,h2,h3⟩
end
def m7:List D->Option (List Key)
 | []=>some []
 | .int i::ds=>(m7 ds).map (Sum.inl i :: ·)
 | .str l::ds=>(m7 ds).map (Sum.inr (S l) :: ·)
 | _=>none
def pP:D->Option NK
 | .tup [.int i,.tup ds]=>(m7 ds).map λa=>(i,a)
 | _=>none
theorem Rps.keysN{K:Frag}{F:Hp}{d:List Addr}:∀{ds:List D}{xs:List V}{ks:List Key},Rps K F d xs ds->m7 ds=some ks->xs=ks.map kV
 | [],xs,ks,h,e=>by cases e;exact h.un0
 | .int i::ds,xs,ks,h,e=>by
  obtain⟨x,r,rfl,h1,h2⟩:=h.un;obtain⟨c,a,rfl⟩:=jp.mp (show(m7 ds).map (Sum.inl i :: ·)=some ks from e);rw[h1.unI,Rps.keysN h2 a];rfl
 | .str l::ds,xs,ks,h,e=>by
  obtain⟨x,r,rfl,h1,h2⟩:=h.un;obtain⟨c,a,rfl⟩:=jp.mp (show(m7 ds).map (Sum.inr (S l) :: ·)=some ks from e);rw[h1.unS,Rps.keysN h2 a];rfl
 | .non::ds,xs,ks,h,e=>by cases e
 | .bl _::ds,xs,ks,h,e=>by cases e
 | .lst _::ds,xs,ks,h,e=>by cases e
 | .tup _::ds,xs,ks,h,e=>by cases e
 | .dic _ _::ds,xs,ks,h,e=>by cases e
 | .ob _::ds,xs,ks,h,e=>by cases e
def Hf:List Value->Bool
 | [.int _ _,.ref _]=>true
 | _=>false
def bY:Frag->Bool
 | []=>true
 |p::r=>(match p.2.data with
  | .seq its _=>!Hf its.toList
  | _=>true)&&bY r
theorem Hg{a:Addr}{o:Obj}{its:Array Value}{n:Nat}:∀{K:Frag},bY K=true->List.lookup a K=some o->o.data=.seq its n->Hf its.toList=false
 | [],_,h,_=>by cases h
 |p::r,hk,h,hd=>by
  unfold bY at hk;rw[zm] at hk;rw[List.lookup_cons] at h;split at h
  ·cases h
   have:=hk.1
   rw[hd] at this;simpa using this
  ·exact Hg hk.2 h hd
theorem Rp.nkey{K:Frag}{F:Hp}{J:List Addr}{v:V}{d:D}{k:NK}(B:bY K=true)(h:Rp K F J v d)(e:pP d=some k):∃b,v=.ref b/\NAt K F k b:=by
 unfold pP at e;split at e
 ·rename_i i R;obtain⟨Q,I,rfl⟩:=jp.mp e;obtain⟨b,O,rfl,h1,h2⟩:=h.unT';obtain⟨x,r,rfl,h3,h4⟩:=h2.un;obtain⟨P,f,rfl,G,E⟩:=h4.un;obtain rfl:=E.un0;obtain⟨c,L,rfl,g,C⟩:=G.unT';have H:=C.keysN I;rw[h3.unI] at h1
  rcases h1 with h1 | ⟨o,a,n,y,_,m,_,l⟩
  ·refine⟨b,rfl,c,h1,?_⟩;rw[H] at g;exact g
  ·exfalso
   have q:=Hg B y m;have l5':aN [.int i,.ref c] a.toList:=l
   generalize a.toList=j at q l5'
   cases l5' with
   | @cons _ u _ j r1 f =>
    cases f with
    | @cons _ u2 _ us2 r3 r4 =>
     cases r4;obtain⟨t,rfl⟩:∃t,u=.int i t:=r1;obtain rfl:u2=Value.ref c:=r3;cases q
 ·cases e
section
variable {X:Cx}{md:List Md}{P:Pt}{R:RR}
def pQ:M D:=λ_ O=>.ok (.ob O.length) (O++[.dn []])
theorem Hh{c:Pos}:VE X md P (.Dict [] [] c) pQ:=V3.imp λσ H Q q p a=>by
 obtain⟨ρ,O,F,f,d,g,r,s,e,k⟩:=q;cases e;refine k _ _ F (f++[p]) (Gr.snoc a) ((r.lay a).snocO (r.unF a) (λz=>r.all z a) ⟨[],bI,rfl,Rps.nil⟩) (Rp.mkO ?_);rw[<-r.len,zH (zc _),Nat.sub_self];rfl
def fU(f a c:M D):MS:=λρ O=>match c ρ O with
 | .ok d O1=>match f ρ O1 with
  | .ok (.ob n) O2=>match a ρ O2 with
   | .ok y O3=>match pP y,O3[n]? with
    |some k,some (.dn kvs)=>if kvs.length<1000000 then .nx ρ (O3.set n (.dn (putN kvs k d))) else .no
    | _,_=>.no
   | _=>.no
  | _=>.no
 | _=>.no
theorem wZ{kk:Nat}(hk:bY X.K=true)(hr:bj kk X.A){o i value:Expr}{j pos':Pos}{Z W Y:M D}(ho:VE X md P o Z)(hi:VE X md P i W)(hv:VE X md P value Y)
  (hs:swapsWith value (some (.Subscript o i pos')) j.line X.env=pure false:=by rfl):VS X md P R (.Assign [.Subscript o i pos'] value j) (fU Z W Y):=
 (V2 (n6 hr) ho hi hv hs).imp λD σ H q=>by
  obtain⟨ρ,O,F,as,r,s,k⟩:=q;unfold fU at k;split at k
  ·rename_i d O1 e1;split at k
   ·rename_i n O2 e2;split at k
    ·rename_i y O3 e3;split at k
     ·rename_i C kvs e4 e5;split at k
      ·rename_i hz;refine⟨ρ,O,F,as,_,_,r,s,e1,λv H1 F1 l I r1 hv=>⟨ρ,O1,F1,l,_,_,r1,s.step I,e2,λx H2 F2 Q G r2 hx=>⟨ρ,O2,F2,Q,_,_,r2,s.step (I.trans G),e3,λu H3 J g E B hu=>?_⟩⟩⟩;obtain⟨a,rfl,ha⟩:=Rp.unO hx;have f:=E.at_ n a ha;obtain⟨m,U,T⟩:=B.dn f e5;obtain⟨b,rfl,hb⟩:=Rp.nkey hk hu e4;have L:=(show Rp X.K F1 l v d from hv).gr (G.trans E)
       have hl:m.length<sizeLine:=by rw[T.len];exact zF hz (by decide)
       have g4:Gr H3 J g (upd H3 a (.dN X.K (putK m C v))) J g:=Gk (zJ f) U;have gg:=((I.trans G).trans E).trans g4;obtain⟨z1,z2⟩:=T.put C L;exact⟨a,m,C,b,rfl,rfl,U,hb.mono λc ys hc=>B.fh _ _ hc,hl,k σ _ J g gg.toS (B.mutG f ⟨_,bI,z1,z2⟩) (s.step gg)⟩
      ·exact False.elim k
     ·exact False.elim k
    ·exact False.elim k
   ·exact False.elim k
  ·exact False.elim k
def nsG(n:Nat)(y:D)(O:aq):Res D:=match pP y,O[n]? with
 |some k,some (.nf kvs)=>match valN kvs k with
  |some d=>.ok d O
  |none=>.no
 |some k,some (.dn kvs)=>match valN kvs k with
  |some d=>.ok d O
  |none=>.no
 | _,_=>.no
def du(c a:M D):M D:=λρ O=>(c ρ O).bind λx f=>match x with
 | .ob n=>(a ρ f).bind λy d=>nsG n y d
 | _=>.no
theorem pR{kk:Nat}(hk:bY X.K=true)(hr:bj kk X.A){o i:Expr}{pos:Pos}{mo my:M D}(ho:VE X md P o mo)(hi:VE X md P i my)(hs:vq i:=by intro _ _;rfl):VE X md P (.Subscript o i pos) (du mo my):=
 (V1 (n6 hr) ho hi hs).imp λσ H Q q=>by
  obtain⟨ρ,O,F,as,d,O',r,s,e,k⟩:=q;obtain⟨x,O1,e1,e⟩:=Res.bind_ok e
  cases x with
  |ob n =>
   obtain⟨y,O2,e2,e⟩:=Res.bind_ok e;unfold nsG at e;split at e
   ·rename_i C kvs e3 e4;split at e
    ·rename_i d' f;cases e;refine⟨ρ,_,F,as,_,_,r,s,e1,λx H1 F1 m G W Y=>⟨ρ,_,F1,m,_,_,W,s.step G,e2,λu H2 F2 l E j Z=>?_⟩⟩;obtain⟨a,rfl,ha⟩:=Rp.unO Y;obtain⟨o,J,T,L⟩:=j.nf (E.at_ n a ha) e4;obtain⟨b,rfl,hb⟩:=Rp.nkey hk Z e3
     rcases L.val (k:=C) with⟨g,B⟩ | ⟨d2,U,g,B,I⟩
     ·rw[g] at f;cases f
     ·rw[g] at f;cases f;exact⟨a,U,rfl,⟨J,C,b,.inr ⟨o,T⟩,rfl,hb.mono λc ys hc=>j.fh _ _ hc,B.symm⟩,k _ H2 F2 l (G.trans E) j I⟩
    ·cases e
   ·rename_i C kvs e3 e4;split at e
    ·rename_i d' f;cases e;refine⟨ρ,_,F,as,_,_,r,s,e1,λx H1 F1 m G W Y=>⟨ρ,_,F1,m,_,_,W,s.step G,e2,λu H2 F2 l E j Z=>?_⟩⟩;obtain⟨a,rfl,ha⟩:=Rp.unO Y;obtain⟨J,T,L⟩:=j.dn (E.at_ n a ha) e4;obtain⟨b,rfl,hb⟩:=Rp.nkey hk Z e3
     rcases L.val (k:=C) with⟨g,B⟩ | ⟨d2,U,g,B,I⟩
     ·rw[g] at f;cases f
     ·rw[g] at f;cases f;exact⟨a,U,rfl,⟨J,C,b,.inl T,rfl,hb.mono λc ys hc=>j.fh _ _ hc,B.symm⟩,k _ H2 F2 l (G.trans E) j I⟩
    ·cases e
   ·cases e
  | _=>cases e
end
section
variable {K:Frag}{mg:Str->Option Value}{O:aq}{H F:Hp}{as:List Addr}
theorem Hi{b:Addr}{xs:List V}(a:H b=some (.tup xs))(hs:∃O,RlO K mg O H F as):∃c,Gr H F as H c as/\(∀O,RlO K mg O H F as->RlO K mg O H c as)/\c b=some (.tup xs):=by
 cases hF:F b with
 |some u =>
  obtain⟨f,d⟩:=hs
  have:=d.fh b u hF
  rw[a] at this;cases this;exact⟨F,Gr.refl,λ_ r=>r,hF⟩
 |none=>exact⟨upd F b (.tup xs),Gr.tupF a hF,λ_ r=>r.frz a hF (r.noT a) rfl,bI⟩
end
def Hj(p:NK×D):D:=.tup [.int p.1.1,.tup (p.1.2.map jt)]
section
variable {X:Cx}{md:List Md}{P:Pt}{R:RR}
def m8(m:M D):M (List D):=λρ O=>(m ρ O).bind λd a=>match d with
 | .ob n=>match a[n]? with
  |some (.dn kvs)=>.ok (kvs.map Hj) (a.set n (.nf kvs))
  | _=>.no
 | _=>.no
theorem V7{tg e:Expr}{m:M D}(h:VE X md P e m):VI X md P tg e (m8 m):=(V6 h).imp λσ H Q q=>by
 obtain⟨ρ,O,F,as,ds,O',r,s,e,k⟩:=q;obtain⟨d,O1,e1,e⟩:=Res.bind_ok e;split at e
 ·rename_i n;split at e
  ·rename_i kvs e2;cases e;refine⟨ρ,_,F,as,_,_,r,s,e1,λv H1 F1 J g1 T hv=>?_⟩;obtain⟨a,rfl,B⟩:=Rp.unO hv;obtain⟨xs,L,j⟩:=T.dn B e2;refine⟨a,xs,rfl,L,λo=>k (wX X.K a o) (upd H1 a (.frz o (.dN X.K xs))) F1 J (g1.trans (Gk (zJ B) L)) (T.mutG B ⟨o,xs,bI,j.1,j.2⟩) ⟨λi d H2 F2 g C l hd=>?_,λH2 F2 g C l=>?_⟩⟩
   ·have hz:=C.kz a o _ bI
    have u:i<kvs.length:=by have:=(zr.mp hd).1;rwa [zf] at this
    have hi':i<xs.length:=by rw[j.len];exact u
    refine⟨⟨xs,hz,hi'⟩,λx H3 y=>?_⟩;obtain⟨rfl,hy⟩:=y;obtain⟨b,p,rfl,hp,hb⟩:=hy xs hz
    have U:p.1=kvs[i].1:=by
     have h1:(xs.map (·.1))[i]?=some p.1:=by rw[zD,hp];rfl
     rw[j.1,zD,zu u] at h1
     injection h1 with h1
     exact h1.symm
    rw[zD,zu u] at hd
    injection hd with hd
    subst hd;obtain⟨c,I,f⟩:=hb;obtain⟨O2,G⟩:=id l;obtain⟨F3,Y,E,Z⟩:=Hi I l
    rcases f with f | f
    ·obtain⟨F4,W,f4,e4⟩:=Hi f ⟨O2,E O2 G⟩;refine⟨F4,Y.trans W,λO r=>f4 O (E O r),b,_,rfl,.inl (W.ff _ _ Z),?_⟩;rw[<-U];exact Rps.cons (show Rp X.K F4 g (.int p.1.1) (.int p.1.1) from rfl) (Rps.cons ⟨c,_,rfl,.inl e4,rR p.1.2⟩ Rps.nil)
    ·refine⟨F3,Y,E,b,_,rfl,.inl Z,?_⟩;rw[<-U];exact Rps.cons (show Rp X.K F3 g (.int p.1.1) (.int p.1.1) from rfl) (Rps.cons ⟨c,_,rfl,.inr f,rR p.1.2⟩ Rps.nil)
   ·exact⟨xs,C.kz a o _ bI,by rw[zf,j.len];exact zc _⟩
  ·cases e
 ·cases e
end
def m9(i:Nat)(ms:MS):MS:=λρ O=>match ρ[i]? with
 |some (some (.ob n))=>match O[n]? with
  |some (.dn _)=>match ms ρ O with
   | .nx ρ2 O2=>match O2[n]? with
    |some (.nf kvs)=>.nx ρ2 (O2.set n (.dn kvs))
    | _=>.no
   | _=>.no
  | _=>.no
 | _=>.no
section
variable {K:Frag}{mg:Str->Option Value}{md:List Md}{P:Pt}{ρ:aA}{σ:St}{O:aq}{H F H' F':Hp}{as as':List Addr}
theorem GrS.reHN{a:Addr}{h:HO}{xs:List (NK×V)}(g:GrS P H F as H' F' as')(j:a∈as)(f:H a=some (.dN K xs)):GrS P H F as (upd H' a h) F' as' :=
 ⟨g.fz,g.ff,g.nw,λc o p e d hd=>by rw[aL (λz=>d (by rw[z];exact j))];exact g.fr c o p e d hd,λc e=>by
  by_cases z:c=a
  ·rw[z,bI] at e;cases e
  ·rw[aL z] at e;exact g.dm c e,λc o u e=>by rw[aL (λz=>by rw[z,f] at e;cases e)];exact g.kz c o u e⟩
end
section
variable {X:Cx}{md:List Md}{P:Pt}{R:RR}
theorem V8(i:Nat){st:Stmt}{ms:MS}(h:VS X md P R st ms):VS X md P R st (m9 i ms):=λpins s σ H D I q=>by
 obtain⟨ρ,O,F,E,r,sl,k⟩:=q;unfold m9 at k;split at k
 ·rename_i n Y;split at k
  ·rename_i kv0 W;split at k
   ·rename_i x Z U;split at k
    ·rename_i kvs T;obtain⟨a,m⟩:=sl.obAt Y;obtain⟨xs0,B,_⟩:=r.dn m W;have Q:=I.base0N B
     refine thn (h pins s σ H {nx:=λc j=>∃l d,GrS P H F E j l d/\RlO X.K X.mg Z j l d/\SlO X.K md P x c j l d,rt:=λ_ _=>False} I ⟨ρ,O,F,E,r,sl,by rw[U];exact λc j l d g r s=>⟨l,d,g,r,s⟩⟩) λf s' z=>?_
     cases f with
     |next =>
      obtain⟨c,j,I',l,d,g,C,L⟩:=z;have ha':=g.at_ n a m;have hm':=zJ ha';obtain⟨o,J,G,y⟩:=C.nf ha' T;exact⟨c,_,I'.thawN G Q,k c _ l d (g.reHN (zJ m) B) (C.mutG ha' ⟨J,bI,y.1,y.2⟩) (L.reH hm')⟩
     |brk=>obtain⟨c,j,_,z⟩:=z;exact z.elim
     |cont=>obtain⟨c,j,_,z⟩:=z;exact z.elim
     |ret u=>obtain⟨v,c,j,_,_,z⟩:=z;exact z.elim
    ·exact False.elim k
   ·exact False.elim k
  ·exact False.elim k
 ·exact False.elim k
end
section
variable {X:Cx}{md:List Md}{P:Pt}{R:RR}
end
section
variable {K:Frag}{h:Heap}{mg:Str->Option Value}
theorem mkD{x:Str}{st:Stmt}{f:Addr}{g:Value}{od j:Option Addr}{sl:Array (Option Value)}{kV dc pm d ct:Value}(X:K.In h)(G:h.Ns mainGlobals mg)(a:nsIn K mainGlobals x=some (some (.ref f)))(l:K.lookup f=some ⟨g,od,.func (fnOf x x (fc st) (di st) (aX st) .none kV dc pm j d ct),sl⟩)(c:codeIn K d x=true)(k:keepIn K (.ref f)=true):Def K mg x st:=⟨_,_,mg_of X G a,vH l c k⟩
structure ClsAt(K:Frag)(c:Str)(A:Addr):Prop where
 ns:nsIn K mainGlobals c=some (some (.ref A))
 pg:plainGet K A Str.empty=true
 hd:hasDictIn K A=true
 po:plainOver K A=true
 sa:findIn K (.ref A) "__setattr__" = some (some (.builtin "object.__setattr__"))
 mks:makesIn K A=true
 kc:keepIn K (.ref A)=true
def MethAt(K:Frag)(A:Addr)(m qual:Str)(st:Stmt):Prop:=∃f fd,findIn K (.ref A) m=some (some (.ref f))/\isFn K (.ref f)=true/\keepIn K (.ref f)=true/\Fun K m qual st f fd
theorem mkM{A:Addr}{m qual:Str}{st:Stmt}{f:Addr}{g:Value}{od j:Option Addr}{sl:Array (Option Value)}{kV dc pm d ct:Value}(a:findIn K (.ref A) m=some (some (.ref f)))(i:isFn K (.ref f)=true)(l:K.lookup f=some ⟨g,od,.func (fnOf m qual (fc st) (di st) (aX st) .none kV dc pm j d ct),sl⟩)(c:codeIn K d qual=true)(k:keepIn K (.ref f)=true):MethAt K A m qual st:=⟨_,_,a,i,k,vH l c k⟩
variable {A:Addr}{c:Str}
theorem ClsAt.cl(z:ClsAt K c A):Cls K A:=⟨z.pg,z.hd,z.po,z.sa⟩
theorem ClsAt.dm(z:ClsAt K c A)(X:K.In h)(G:h.Ns mainGlobals mg){m qual:Str}{st:Stmt}(q:MethAt K A m qual st):lK K mg c m qual st:=by
 obtain⟨f,fd,a,i,k,d⟩:=q;exact⟨_,_,_,mg_of X G z.ns,z.cl,⟨a,i,k⟩,d⟩
theorem ClsAt.dc(z:ClsAt K c A)(X:K.In h)(G:h.Ns mainGlobals mg){qual:Str}{st:Stmt}(q:MethAt K A "__init__" qual st):wk K mg c qual st:=by
 obtain⟨f,fd,a,i,k,d⟩:=q;exact⟨_,_,_,mg_of X G z.ns,⟨z.mks,a,i,z.kc⟩,d⟩
theorem ClsAt.kf(z:ClsAt K c A)(X:K.In h)(G:h.Ns mainGlobals mg){f:Str}(n:findIn K (.ref A) f=some none):KC K mg c f:=⟨_,mg_of X G z.ns,z.cl,n⟩
end
end L2
namespace L2
open PySem PySem.Spec PyProof.Rows
section
variable {X:Cx}
end
def ofO(o:Option D)(O:aq):Res D:=match o with
 |some d=>.ok d O
 |none=>.no
@[simp] theorem j5{d:D}{O:aq}:ofO (some d) O=.ok d O:=rfl
@[simp] theorem aR{α β:Type}{a:α}{O:aq}{f:α->aq->Res β}:(Res.ok a O).bind f=f a O:=rfl
@[simp] theorem Qxe{O:aq}:bG O .non=.non:=rfl
@[simp] theorem Hk{O:aq}{b:Bool}:bG O (.bl b)=.bl b:=rfl
@[simp] theorem jD{O:aq}{b:Int}:bG O (.int b)=.int b:=rfl
@[simp] theorem w5{O:aq}{b:List Nat}:bG O (.str b)=.str b:=rfl
@[simp] theorem j6{O:aq}{b:List D}:bG O (.lst b)=.lst b:=rfl
@[simp] theorem Qxh{O:aq}{b:List D}:bG O (.tup b)=.tup b:=rfl
@[simp] theorem Qxm{O:aq}{a b:List D}:bG O (.dic a b)=.dic a b:=rfl
@[simp] theorem Qzp{i:Nat}{ρ:aA}{O:aq}:aa i ρ O=(match ρ[i]? with | some (some d)=>.ok d O | _=>.no):=rfl
@[simp] theorem m_c{d:D}{ρ:aA}{O:aq}:mC d ρ O=.ok d O:=rfl
@[simp] theorem Hl{g:D->D->Option D}{a b:M D}{ρ:aA}{O:aq}:aj g a b ρ O=(a ρ O).bind λx d=>(b ρ d).bind λy c=>ofO (g (bG c x) (bG c y)) c:=rfl
def gF(r:Res D):Res D:=match r with
 | .ok d O'=>if iB d=true then .ok d O' else .no
 |r=>r
@[simp] theorem m_g{m:M D}{ρ:aA}{O:aq}:mG m ρ O=gF (m ρ O):=rfl
@[simp] theorem Qzc{i:Int}{O:aq}:gF (.ok (.int i) O)=.ok (.int i) O:=rfl
@[simp] theorem Qy2{i:List Nat}{O:aq}:gF (.ok (.str i) O)=.ok (.str i) O:=rfl
@[simp] theorem Qzy{i:Bool}{O:aq}:gF (.ok (.bl i) O)=.ok (.bl i) O:=rfl
@[simp] theorem QyD{O:aq}:gF (.ok .non O)=.ok .non O:=rfl
@[simp] theorem QyU{l:List D}{O:aq}:gF (.ok (.tup l) O)=.ok (.tup l) O:=rfl
@[simp] theorem Qzr{n:Nat}{O:aq}:gF (.ok (.ob n) O)=.ok (.ob n) O:=rfl
def chF(o:Option D)(O:aq)(f:Unit->Res D):Res D:=match o with
 |some (.bl true)=>f ()
 |some (.bl false)=>.ok (.bl false) O
 | _=>.no
@[simp] theorem Qzm{b:Bool}{O:aq}{f:Unit->Res D}:chF (some (.bl b)) O f=if b=true then f () else .ok (.bl false) O:=by cases b<;>rfl
@[simp] theorem Qyl{g g':D->D->Option D}{a b c:M D}{ρ:aA}{O:aq}:Ew g g' a b c ρ O=(a ρ O).bind λx j=>(b ρ j).bind λy d=>chF (g (bG d x) (bG d y)) d λ_=>(c ρ d).bind λz f=>ofO (g' (bG f y) (bG f z)) f:=by
 unfold Ew;congr 1
@[simp] theorem V9{m:M D}{ρ:aA}{O:aq}:iC m ρ O=(m ρ O).bind λd a=>.ok (.bl (isNon d)) a:=rfl
@[simp] theorem QyG{m:M D}{ρ:aA}{O:aq}:gH m ρ O=(m ρ O).bind λd a=>.ok (.bl (!isNon d)) a:=rfl
@[simp] theorem Qxg:isNon .non=true:=rfl
@[simp] theorem Qxi{l:List D}:isNon (.lst l)=false:=rfl
@[simp] theorem Qxl{l:List D}:isNon (.tup l)=false:=rfl
@[simp] theorem Qxf{l:List Nat}:isNon (.str l)=false:=rfl
@[simp] theorem Qxj{l:Int}:isNon (.int l)=false:=rfl
@[simp] theorem QxK{l:Nat}:isNon (.ob l)=false:=rfl
def teF(d:D)(O:aq):Res Bool:=match d with
 | .bl b=>.ok b O
 | _=>.no
@[simp] theorem Hm{b:Bool}{O:aq}:teF (.bl b) O=.ok b O:=rfl
@[simp] theorem Hn{m:M D}{ρ:aA}{O:aq}:aB m ρ O=(m ρ O).bind teF:=rfl
def ofB(o:Option Bool)(O:aq):Res Bool:=match o with
 |some d=>.ok d O
 |none=>.no
@[simp] theorem Ho{d:Bool}{O:aq}:ofB (some d) O=.ok d O:=rfl
@[simp] theorem w6{m:M D}{ρ:aA}{O:aq}:cW m ρ O=(m ρ O).bind λd a=>ofB (mL (bG a d)) a:=rfl
@[simp] theorem Hq{b:Bool}:mL (.bl b)=some b:=rfl
@[simp] theorem Qxv{b:List D}:mL (.lst b)=some (!b.isEmpty):=rfl
@[simp] theorem eV{a b:M Bool}{ρ:aA}{O:aq}:b7 a b ρ O=(a ρ O).bind λc d=>if c=true then b ρ d else .ok false d:=rfl
@[simp] theorem j7{a b:M Bool}{ρ:aA}{O:aq}:cO a b ρ O=(a ρ O).bind λc d=>if c=true then .ok true d else b ρ d:=rfl
@[simp] theorem Wa{a:M Bool}{ρ:aA}{O:aq}:oU a ρ O=(a ρ O).bind λc d=>.ok (!c) d:=rfl
def anF(d:D)(O:aq)(f:Unit->Res D):Res D:=match d with
 | .bl true=>f ()
 | .bl false=>.ok (.bl false) O
 | _=>.no
def orF(d:D)(O:aq)(f:Unit->Res D):Res D:=match d with
 | .bl true=>.ok (.bl true) O
 | .bl false=>f ()
 | _=>.no
@[simp] theorem Qzw{b:Bool}{O:aq}{f:Unit->Res D}:anF (.bl b) O f=if b=true then f () else .ok (.bl false) O:=by cases b<;>rfl
@[simp] theorem Qzj{b:Bool}{O:aq}{f:Unit->Res D}:orF (.bl b) O f=if b=true then .ok (.bl true) O else f ():=by cases b<;>rfl
@[simp] theorem QyV{a b:M D}{ρ:aA}{O:aq}:qZ a b ρ O=(a ρ O).bind λd c=>anF d c λ_=>b ρ c:=by
 unfold qZ;congr 1
@[simp] theorem Qzz{a b:M D}{ρ:aA}{O:aq}:EY a b ρ O=(a ρ O).bind λd c=>orF d c λ_=>b ρ c:=by
 unfold EY;congr 1
def noF(d:D)(O:aq):Res D:=match d with
 | .bl b=>.ok (.bl (!b)) O
 | _=>.no
@[simp] theorem QzC{b:Bool}{O:aq}:noF (.bl b) O=.ok (.bl (!b)) O:=rfl
@[simp] theorem QyK{a:M D}{ρ:aA}{O:aq}:Su a ρ O=(a ρ O).bind noF:=rfl
@[simp] theorem nj{t:M Bool}{a b:M D}{ρ:aA}{O:aq}:mIf t a b ρ O=(t ρ O).bind λc d=>if c=true then a ρ d else b ρ d:=rfl
@[simp] theorem Wb{ρ:aA}{O:aq}:au ρ O=.ok [] O:=rfl
@[simp] theorem xf{m:M D}{r:M (List D)}{ρ:aA}{O:aq}:ak m r ρ O=(m ρ O).bind λd c=>(r ρ c).bind λds a=>.ok (d::ds) a:=rfl
@[simp] theorem Wc{r:M (List D)}{ρ:aA}{O:aq}:bA r ρ O=(r ρ O).bind λds a=>if ds.length<=1000000 then .ok (.lst ds) a else .no:=rfl
@[simp] theorem Wd{r:M (List D)}{ρ:aA}{O:aq}:bH r ρ O=(r ρ O).bind λds a=>if ds.length<=1000000 then .ok (.tup ds) a else .no:=rfl
@[simp] theorem Hr{c:List D->aq->Res D}{a:M (List D)}{ρ:aA}{O:aq}:aG c a ρ O=(a ρ O).bind λds d=>c ds d:=rfl
@[simp] theorem Hs{g:List D->Option D}{a:M (List D)}{ρ:aA}{O:aq}:bK g a ρ O=(a ρ O).bind λds c=>ofO (g (ds.map (bG c))) c:=rfl
@[simp] theorem QzU{g:D->Option D}{a:M D}{ρ:aA}{O:aq}:mUn g a ρ O=(a ρ O).bind λd c=>ofO (g (bG c d)) c:=rfl
def isF(n:String)(o:Option String)(O:aq):Res D:=match o with
 |some t=>.ok (.bl (d9 t n)) O
 |none=>.no
@[simp] theorem Qx5{n t:String}{O:aq}:isF n (some t) O=.ok (.bl (d9 t n)) O:=rfl
@[simp] theorem QzL{n:String}{m:M D}{ρ:aA}{O:aq}:Tz n m ρ O=(m ρ O).bind λd a=>isF n (tyD (bG a d)) a:=rfl
@[simp] theorem QyB:tyD .non=some "NoneType":=rfl
@[simp] theorem QyE{b:Bool}:tyD (.bl b)=some "bool":=rfl
@[simp] theorem Qyn{b:Int}:tyD (.int b)=some "int":=rfl
@[simp] theorem Qyu{b:List Nat}:tyD (.str b)=some "str":=rfl
@[simp] theorem Qyg{b:List D}:tyD (.lst b)=some "list":=rfl
@[simp] theorem Qys{b:List D}:tyD (.tup b)=some "tuple":=rfl
@[simp] theorem Qyo{a b:List D}:tyD (.dic a b)=some "dict":=rfl
@[simp] theorem Ht{ρ:aA}{O:aq}:moN ρ O=.ok none O:=rfl
def osF(d:D)(O:aq):Res (Option Int):=match d with
 | .int i=>.ok (some i) O
 | _=>.no
@[simp] theorem xj{i:Int}{O:aq}:osF (.int i) O=.ok (some i) O:=rfl
@[simp] theorem pU{m:M D}{ρ:aA}{O:aq}:moS m ρ O=(m ρ O).bind osF:=rfl
@[simp] theorem sI{m:M D}{lo a:M (Option Int)}{ρ:aA}{O:aq}:mSl m lo a ρ O=(m ρ O).bind λd g=>(lo ρ g).bind λl f=>(a ρ f).bind λh c=>ofO (gSl (bG c d) l h) c:=rfl
@[simp] theorem We{l:List Nat}{lo a:Option Int}:gSl (.str l) lo a=if l.length<=16777216 then some (.str (dj l lo a)) else none:=rfl
@[simp] theorem xn{l:List D}{lo a:Option Int}:gSl (.lst l) lo a=some (.lst (dj l lo a)):=rfl
@[simp] theorem Qyy{l:List D}{lo a:Option Int}:gSl (.tup l) lo a=some (.tup (dj l lo a)):=rfl
def jE(f:Fl)(b:MS):Fl:=match f with
 | .nx ρ' O'=>b ρ' O'
 |r=>r
@[simp] theorem gk{a b:MS}{ρ:aA}{O:aq}:aC a b ρ O=jE (a ρ O) b:=rfl
@[simp] theorem nu{ρ:aA}{O:aq}{b:MS}:jE (.nx ρ O) b=b ρ O:=rfl
@[simp] theorem Wf{d:D}{O:aq}{b:MS}:jE (.rt d O) b=.rt d O:=rfl
@[simp] theorem Qyi{ρ:aA}{O:aq}{b:MS}:jE (.bk ρ O) b=.bk ρ O:=rfl
@[simp] theorem Qyr{ρ:aA}{O:aq}{b:MS}:jE (.ct ρ O) b=.ct ρ O:=rfl
@[simp] theorem Qyh{b:MS}:jE .no b=.no:=rfl
@[simp] theorem QyH{ρ:aA}{O:aq}:bz ρ O=.nx ρ O:=rfl
def lR(r:Res D):Fl:=match r with
 | .ok d O'=>.rt d O'
 | .ex x O'=>.ex x O'
 | .no=>.no
@[simp] theorem dW{m:M D}{ρ:aA}{O:aq}:aZ m ρ O=lR (m ρ O):=rfl
@[simp] theorem QyA{d:D}{O:aq}:lR (.ok d O)=.rt d O:=rfl
def Hu(r:Res D)(ρ:aA):Fl:=match r with
 | .ok _ O'=>.nx ρ O'
 | .ex x O'=>.ex x O'
 | .no=>.no
@[simp] theorem Wg{m:M D}{ρ:aA}{O:aq}:oV m ρ O=Hu (m ρ O) ρ:=rfl
@[simp] theorem Wh{d:D}{O:aq}{ρ:aA}:Hu (.ok d O) ρ=.nx ρ O:=rfl
def ifF(r:Res Bool)(a b:MS)(ρ:aA):Fl:=match r with
 | .ok c O'=>if c=true then a ρ O' else b ρ O'
 | .ex x O'=>.ex x O'
 | .no=>.no
@[simp] theorem sJ{t:M Bool}{a b:MS}{ρ:aA}{O:aq}:bc t a b ρ O=ifF (t ρ O) a b ρ:=rfl
@[simp] theorem sO{c:Bool}{O:aq}{a b:MS}{ρ:aA}:ifF (.ok c O) a b ρ=if c=true then a ρ O else b ρ O:=rfl
def pW(i:Nat)(r:Res D)(ρ:aA):Fl:=match r with
 | .ok d O'=>.nx (ρ.set i (some d)) O'
 | .ex x O'=>.ex x O'
 | .no=>.no
@[simp] theorem Hv{i:Nat}{m:M D}{ρ:aA}{O:aq}:aH i m ρ O=pW i (m ρ O) ρ:=rfl
@[simp] theorem Hw{i:Nat}{d:D}{O:aq}{ρ:aA}:pW i (.ok d O) ρ=.nx (ρ.set i (some d)) O:=rfl
def Hx(r:Res (List D))(g:MG)(b:MS)(ρ:aA):Fl:=match r with
 | .ok ds O'=>b8 g b ds ρ O'
 | .ex x O'=>.ex x O'
 | .no=>.no
@[simp] theorem lU{m:M (List D)}{g:MG}{b:MS}{ρ:aA}{O:aq}:dq m g b ρ O=Hx (m ρ O) g b ρ:=rfl
@[simp] theorem lV{ds:List D}{O:aq}{g:MG}{b:MS}{ρ:aA}:Hx (.ok ds O) g b ρ=b8 g b ds ρ O:=rfl
@[simp] theorem mg_n{i:Nat}{d:D}{ρ:aA}:mgN i d ρ=some (ρ.set i (some d)):=rfl
def bh(f:Fl):Res D:=match f with
 | .rt d O'=>.ok d O'
 | .nx _ O'=>.ok .non O'
 | .ex x O'=>.ex x O'
 | _=>.no
@[simp] theorem Qzd{n:Nat}{b:MS}{ds:List D}{O:aq}:bV n b ds O=bh (b (ds.map some++List.replicate (n - ds.length) none) O):=rfl
@[simp] theorem Qyt{d:D}{O:aq}:bh (.rt d O)=.ok d O:=rfl
@[simp] theorem Qyq{ρ:aA}{O:aq}:bh (.nx ρ O)=.ok .non O:=rfl
@[simp] theorem Wi{m:M (List D)}{ρ:aA}{O:aq}:jA m ρ O=(m ρ O).bind λds a=>match ds with
 | [.int j]=>if j<=1000000000/\-1000000000<=j then .ok (fP 0 j.toNat) a else .no
 | _=>.no:=rfl
def itF(o:Option (List D))(O:aq):Res (List D):=match o with
 |some a=>.ok a O
 |none=>.no
@[simp] theorem Wj{ds:List D}{O:aq}:itF (some ds) O=.ok ds O:=rfl
@[simp] theorem Wk{m:M D}{ρ:aA}{O:aq}:cJ m ρ O=(m ρ O).bind λd a=>itF (mX d) a:=rfl
@[simp] theorem Wl{ds:List D}:mX (.lst ds)=some ds:=rfl
@[simp] theorem Qxk{ds:List D}:mX (.tup ds)=some ds:=rfl
@[simp] theorem Wm{m:M (List D)}{own:Nat}{cap:List Nat}{g:MG}{t:M Bool}{e:M D}{ρ:aA}{O:aq}:dJ m own cap g t e ρ O=(m ρ O).bind λds c=>if ds.length<=1000000 then(cX g t e ds (jW own cap ρ) c []).bind λys a=>.ok (.lst ys) a else .no:=rfl
@[simp] theorem QyT{i j:Int}:aD (.int i) (.int j)=some (.int (i+j)):=rfl
@[simp] theorem Wn{a b:List Nat}:aD (.str a) (.str b)=if a.length+b.length<=1000000 then some (.str (a++b)) else none:=rfl
@[simp] theorem QyM{a b:List D}:aD (.lst a) (.lst b)=if a.length+b.length<=1000000 then some (.lst (a++b)) else none:=rfl
@[simp] theorem Qya{i j:Int}:oY (.int i) (.int j)=some (.int (i - j)):=rfl
@[simp] theorem Wo{i j:Int}:bw (.int i) (.int j)=if 0<j then some (.int (i % j)) else none:=by
 unfold bw gI
 by_cases h:0<j<;>simp[h]
@[simp] theorem Wq{i j:Int}:fD (.int i) (.int j)=if 0<j/\j<1073741824 then some (.int (i / j)) else none:=by
 unfold fD gI
 by_cases h:0<j/\j<1073741824<;>simp[h]
theorem xq{i j:Int}(h:(-(2 ^ 64)<i/\i<2 ^ 64)\/(-(2 ^ 64)<j/\j<2 ^ 64)):d7 (.int i) (.int j)=some (.int (i * j)):=by
 unfold d7;dsimp only;rw[if_pos];rw[Bool.or_eq_true];unfold mU;rw[zm,zm,decide_eq_true_eq,decide_eq_true_eq,decide_eq_true_eq,decide_eq_true_eq];exact h
@[simp] theorem Qzf{i j:Int}:gLt (.int i) (.int j)=some (.bl (decide (i<j))):=rfl
@[simp] theorem Wr{i j:Int}:gGt (.int i) (.int j)=some (.bl (decide (j<i))):=rfl
@[simp] theorem Qzs{i j:Int}:gGe (.int i) (.int j)=some (.bl (decide (j<=i))):=rfl
@[simp] theorem Qzk{i j:Int}:gLe (.int i) (.int j)=some (.bl (decide (i<=j))):=rfl
theorem Hy(a b:Nat):(([a]:List Nat) < [b])↔a<b:=by
 constructor
 ·intro h
  rcases List.cons_lt_cons_iff.mp h with h | ⟨_,h⟩
  ·exact h
  ·exact absurd h (List.not_lt_nil _)
 ·intro h;exact List.cons_lt_cons_iff.mpr (.inl h)
@[simp] theorem Qzh{a b:Nat}:gLe (.str [a]) (.str [b])=some (.bl (decide (a<=b))):=by
 show some (D.bl (!decide (([b]:List Nat) < [a])))=_
 have:decide (([b]:List Nat) < [a])=decide (b<a):=by
  by_cases h:b<a
  ·rw[zj h,zj ((Hy _ _).mpr h)]
  ·rw[ze h,ze (λz=>h ((Hy _ _).mp z))]
 rw[this]
 by_cases h:b<a
 ·rw[zj h,ze (by omega)];rfl
 ·rw[ze h,zj (by omega)];rfl
@[simp] theorem QzF{i j:Int}:gEq (.int i) (.int j)=some (.bl (decide (i=j))):=rfl
@[simp] theorem Ws{i j:List Nat}:gEq (.str i) (.str j)=some (.bl (decide (i=j))):=rfl
@[simp] theorem Qzt{i j:Bool}:gEq (.bl i) (.bl j)=some (.bl (decide (i=j))):=rfl
@[simp] theorem Wt{i j:List D}:gEq (.lst i) (.lst j)=if(okE (.lst i)&&okE (.lst j))=true then some (.bl (lF (.lst i) (.lst j))) else none:=rfl
@[simp] theorem QzH{i j:Int}:gNe (.int i) (.int j)=some (.bl (!decide (i=j))):=rfl
@[simp] theorem QzI{i j:List Nat}:gNe (.str i) (.str j)=some (.bl (!decide (i=j))):=rfl
@[simp] theorem QzB{i j:Bool}:gNe (.bl i) (.bl j)=some (.bl (!decide (i=j))):=rfl
@[simp] theorem Wu{i j:List D}:gNe (.lst i) (.lst j)=if(okE (.lst i)&&okE (.lst j))=true then some (.bl (!lF (.lst i) (.lst j))) else none:=rfl
@[simp] theorem Hz{n:Bool}{c:Nat}{l:List Nat}:gIn n (.str [c]) (.str l)=some (.bl (n ^^ decide (c∈l))):=rfl
theorem pX{ds:List D}{i:Int}:gIx (.lst ds) (.int i)=atI ds i:=rfl
theorem HB{l:List Nat}{i:Int}:gIx (.str l) (.int i)=if l.length<=1000000 then(atI l i).map (λc=>.str [c]) else none:=rfl
@[simp] theorem Wv{l:List Nat}:cR [.str l]=if l.length<=1000000 then some (.int l.length) else none:=rfl
@[simp] theorem Qy0{l:List D}:cR [.lst l]=some (.int l.length):=rfl
@[simp] theorem QyP{l:List D}:cR [.tup l]=some (.int l.length):=rfl
@[simp] theorem Qy9{i j:Int}:Tt [.int i,.int j]=some (.int (if j>i then j else i)):=rfl
@[simp] theorem QyJ{i j:Int}:Tu [.int i,.int j]=some (.int (if j<i then j else i)):=rfl
@[simp] theorem Qy8{i:Int}:iI [.int i]=some (.int i):=rfl
@[simp] theorem QyQ{b:Bool}:iI [.bl b]=some (.int (if b then 1 else 0)):=rfl
@[simp] theorem QyS:iG (.int 10) (.int 18)=some (.int 1000000000000000000):=by rfl
@[simp] theorem QyC:iG (.int 10) (.int 9)=some (.int 1000000000):=by rfl
@[simp] theorem pY{α:Type}{xs:List α}{j:Nat}:atI xs (j:Int)=xs[j]?:=by
 unfold atI ixN;rw[if_pos (by omega)]
 by_cases h:j<xs.length
 ·rw[if_pos (by omega)];simp
 ·rw[if_neg (by omega),jj (by omega)];rfl
theorem HD{α:Type}{xs:List α}{i:Int}(h0:0<=i)(h1:i<xs.length):∃x,atI xs i=some x/\x∈xs:=by
 obtain⟨j,rfl⟩:=Int.eq_ofNat_of_zero_le h0
 have a:j<xs.length:=by omega
 exact⟨xs[j],by show atI xs (j:Int)=_;rw[pY,zu a],ji a⟩
section
variable {c:Prop}[Decidable c]
@[simp] theorem QxM{a b:Fl}:bh (if c then a else b)=if c then bh a else bh b:=by split<;>rfl
@[simp] theorem Qxo{a b:Res D}:lR (if c then a else b)=if c then lR a else lR b:=by split<;>rfl
@[simp] theorem QxC{a b:Fl}{r:MS}:jE (if c then a else b) r=if c then jE a r else jE b r:=by split<;>rfl
@[simp] theorem Qxp{α β:Type}{a b:Res α}{f:α->aq->Res β}:(if c then a else b).bind f=if c then a.bind f else b.bind f:=by split<;>rfl
@[simp] theorem Qyv{a b:Res Bool}{x y:MS}{ρ:aA}:ifF (if c then a else b) x y ρ=if c then ifF a x y ρ else ifF b x y ρ:=by split<;>rfl
@[simp] theorem QxQ{a b:Res D}{i:Nat}{ρ:aA}:pW i (if c then a else b) ρ=if c then pW i a ρ else pW i b ρ:=by split<;>rfl
@[simp] theorem Qyj{a b:Option D}{O:aq}:ofO (if c then a else b) O=if c then ofO a O else ofO b O:=by split<;>rfl
end
@[simp] theorem Qy5:d9 "str" "str" = true:=by decide
@[simp] theorem QyY:d9 "int" "str" = false:=by decide
@[simp] theorem Qy3:d9 "bool" "str" = false:=by decide
@[simp] theorem Qy4:d9 "list" "str" = false:=by decide
@[simp] theorem QyF:d9 "tuple" "str" = false:=by decide
@[simp] theorem Qza:d9 "dict" "str" = false:=by decide
@[simp] theorem QyI:d9 "NoneType" "str" = false:=by decide
@[simp] theorem Qy7:d9 "int" "int" = true:=by decide
@[simp] theorem QyR:d9 "int" "bool" = false:=by decide
@[simp] theorem Qyx:d9 "bool" "bool" = true:=by decide
@[simp] theorem Qyz:d9 "list" "list" = true:=by decide
@[simp] theorem Qym:d9 "tuple" "tuple" = true:=by decide
@[simp] theorem Qyp:d9 "NoneType" "list" = false:=by decide
theorem sS{g:MG}{b:MS}(j:Nat->aA->aq->Prop):∀(ds:List D) (k:Nat) (ρ:aA) (O:aq),j k ρ O ->
  (∀i d ρ O,ds[i]?=some d->j (k+i) ρ O->∃ρ1,g d ρ=some ρ1/\∃c l,(b ρ1 O=.nx c l\/b ρ1 O=.ct c l)/\j (k+i+1) c l)->∃a f,b8 g b ds ρ O=.nx a f/\j (k+ds.length) a f
 | [],k,ρ,O,h,_=>⟨ρ,O,rfl,h⟩
 |d::ds,k,ρ,O,h,hs=>by
  obtain⟨ρ1,u,c,l,m,h2⟩:=hs 0 d ρ O rfl h
  obtain⟨a,f,r,h3⟩:=sS j ds (k+1) c l h2 λi x a f q n=>by
   have:=hs (i+1) x a f (by simpa using q) (by rw[show k+(i+1)=k+1+i by omega];exact n)
   rw[show k+(i+1)+1=k+1+i+1 by omega] at this;exact this
  refine⟨a,f,?_,by rw[zv,show k+(ds.length+1)=k+1+ds.length by omega];exact h3⟩;unfold b8;rw[u];dsimp only
  rcases m with m | m<;>rw[m]<;>exact r
theorem HF{g:MG}{t:M Bool}{m:M D}(a:aA->Prop)(p:D->Bool):∀(ds:List D) (ρ:aA) (O:aq) (acc:List D),a ρ->(∀d∈ds,∀ρ,a ρ->∃ρ1,g d ρ=some ρ1/\a ρ1/\t ρ1 O=.ok (p d) O/\m ρ1 O=.ok d O)->cX g t m ds ρ O acc=.ok (acc++ds.filter p) O
 | [],ρ,O,acc,_,_=>by simp[cX]
 |d::ds,ρ,O,acc,h,hs=>by
  obtain⟨ρ1,n,h1,l,j⟩:=hs d zg ρ h
  have f:=λacc=>HF a p ds ρ1 O acc h1 λr c=>hs r (zq _ c)
  unfold cX;rw[n];dsimp only;rw[l]
  cases q:p d with
  |true =>
   dsimp only;rw[j];dsimp only;rw[f,List.filter_cons,q];simp
  |false =>
   dsimp only;rw[f,List.filter_cons,q];simp
@[simp] theorem QyL{ρ:aA}{O:aq}:pF ρ O=.ok [] O:=rfl
@[simp] theorem Qyf{a b:M D}{r:M (List (D×D))}{ρ:aA}{O:aq}:j0 a b r ρ O=(a ρ O).bind λx f=>(b ρ f).bind λy d=>(r ρ d).bind λps c=>.ok ((x,y)::ps) c:=rfl
def diF(o:Option (List Key))(kv:List (D×D))(O:aq):Res D:=match o with
 |some a=>if a.Nodup/\kv.length<=15 then .ok (.dic (kv.map (·.1)) (kv.map (·.2))) O else .no
 |none=>.no
@[simp] theorem Qye{ks:List Key}{kv:List (D×D)}{O:aq}:diF (some ks) kv O=if ks.Nodup/\kv.length<=15 then .ok (.dic (kv.map (·.1)) (kv.map (·.2))) O else .no:=rfl
@[simp] theorem QyN{m:M (List (D×D))}{ρ:aA}{O:aq}:pG m ρ O=(m ρ O).bind λkv a=>diF (keysOf kv) kv a:=rfl
@[simp] theorem Qyk{i:Int}:keyOf (.int i)=some (.inl i):=rfl
@[simp] theorem Qyw{i:List Nat}:keyOf (.str i)=some (.inr (S i)):=rfl
@[simp] theorem Qws:keysOf []=some []:=rfl
@[simp] theorem Qwb{a b:D}{r:List (D×D)}:keysOf ((a,b)::r)=(keyOf a).bind λk=>(keysOf r).map (k :: ·):=rfl
def joF(o:Option (List (List Nat)))(O:aq):Res D:=match o with
 |some ls=>if(ls.map List.length).sum<=1000000 then .ok (.str ls.flatten) O else .no
 |none=>.no
@[simp] theorem QxN{ls:List (List Nat)}{O:aq}:joF (some ls) O=if(ls.map List.length).sum<=1000000 then .ok (.str ls.flatten) O else .no:=rfl
def jdF(d:D)(O:aq):Res D:=match d with
 | .lst ds=>joF (iJ ds) O
 | _=>.no
@[simp] theorem QzG{ds:List D}{O:aq}:jdF (.lst ds) O=joF (iJ ds) O:=rfl
@[simp] theorem Qy6{m:M D}{ρ:aA}{O:aq}:pq m ρ O=(m ρ O).bind λd a=>jdF (bG a d) a:=rfl
@[simp] theorem QzE{own:Nat}{cap:List Nat}{ρ:aA}:jW own cap ρ=List.replicate own none++cap.map λj=>(ρ[j]?).join:=rfl
@[simp] theorem Qxd{g:MG}{t:M Bool}{m:M D}{ρ:aA}{O:aq}{acc:List D}:cX g t m [] ρ O acc=.ok acc O:=rfl
theorem HH:∀ds:List D,jX ds=ds.map toP
 | []=>rfl
 |d::ds=>by rw[jX,HH ds];rfl
theorem HJ:∀{ds:List D},(∀d∈ds,fO d=true)->lE ds=true
 | [],_=>rfl
 |d::ds,h=>by rw[lE,h d zg,HJ λx a=>h x (zq _ a)];rfl
theorem HN{n:Nat}(c:n<60){ds:List D}(h:∀d∈ds,fO d=true/\(toP d).canLay0=true/\(toP d).depth<=n):okE (.lst ds)=true:=by
 unfold okE;rw[zm];refine⟨?_,?_⟩
 ·rw[fO];exact HJ λd hd=>(h d hd).1
 ·rw[toP,HH]
  refine R4 c λd hd=>?_
  obtain⟨x,a,rfl⟩:=zy.mp hd;exact(h x a).2
theorem Ww{l:List Nat}(h:∀c∈l,c<1114112):(PyData.str (S l)).canLay0=true:=by
 show PyData.strOk (S l)=true;unfold PyData.strOk S;simp;exact h
theorem Wx{d:D}(h:okE d=true):lF d d=true:=by
 unfold okE at h;rw[zm] at h
 have:=h.2
 unfold okD at this;rw[zm] at this;exact SeqAt.eqv_refl _ this.1
def it(f:Int->Int):Nat->Int->Int
 | 0,x=>x
 |n+1,x=>f (it f n x)
def mix(n k:Int):Int:=if n>1000000000000000000 then it (λr=>r / 1000000000) k.toNat n % 1000000000
 else
  let m:=it (λm=>(m * 48271+104729) % 2147483629) (k+2).toNat (n % 2147483647+7919)
  m * m % 998244353 / 11
theorem HQ(j:Nat)(x:Int)(h0:0<=x)(h1:x<2147491566):0<=it (λm=>(m * 48271+104729) % 2147483629) j x/\it (λm=>(m * 48271+104729) % 2147483629) j x<2147491566:=by
 induction j with
 |zero=>exact⟨h0,h1⟩
 |succ j ih =>
  refine⟨zN _ (by decide),?_⟩
  have:=zO (it (λm=>(m * 48271+104729) % 2147483629) j x * 48271+104729) (show(0:Int)<2147483629 by decide)
  show(it (λm=>(m * 48271+104729) % 2147483629) j x * 48271+104729) % 2147483629<_;omega
def xu:MS:=(aC (bc (aB (aj gGt (aa 0) (aj iG (mC (.int 10)) (mC (.int 18))))) (aC (aH 2 (mG (aa 0)))
  (aC (dq (jA (ak (aa 1) au)) (mgN 3) (aH 2 (aj fD (aa 2) (aj iG (mC (.int 10)) (mC (.int 9))))))
  (aZ (aj bw (aa 2) (aj iG (mC (.int 10)) (mC (.int 9))))))) bz)
  (aC (aH 4 (aj aD (aj bw (aa 0) (mC (.int 2147483647))) (mC (.int 7919))))
  (aC (dq (jA (ak (aj aD (aa 1) (mC (.int 2))) au)) (mgN 3) (aH 4 (aj bw (aj aD (aj d7 (aa 4) (mC (.int 48271))) (mC (.int 104729))) (mC (.int 2147483629)))))
  (aZ (aj fD (aj bw (aj d7 (aa 4) (aa 4)) (mC (.int 998244353))) (mC (.int 11)))))))
theorem xx(lo:Int)(n:Nat):(fP lo n).length=n:=by simp[fP]
theorem Wz(n k:Int)(h0:0<=k)(h1:k<=1000000)(O:aq):bV 5 xu [.int n,.int k] O=.ok (.int (mix n k)) O:=by
 unfold mix
 by_cases x:n>1000000000000000000
 ·obtain⟨u,c,e,rfl,a,rfl⟩:=sS (g:=mgN 3) (b:=aH 2 (aj fD (aa 2) (aj iG (mC (.int 10)) (mC (.int 9)))))
   (λi ρ c=>c=O/\∃a,ρ=[some (.int n),some (.int k),some (.int (it (λr=>r / 1000000000) i n)),a,none]) (fP 0 k.toNat) 0 [some (.int n),some (.int k),some (.int n),none,none] O ⟨rfl,none,rfl⟩ (by
    rintro i d ρ c hi ⟨rfl,a,rfl⟩;refine⟨_,rfl,?_⟩;simp;rw[show it (λr=>r / 1000000000) (i+1) n=it (λr=>r / 1000000000) i n / 1000000000 from rfl]
    exact⟨_,_,⟨rfl,rfl⟩,rfl,_,rfl⟩)
  rw[xx,zV] at e
  have q:k<=1000000000/\-1000000000<=k:=by omega
  simp[xu,x,q,e]
 ·have l:0<=n % 2147483647+7919:=by have:=zN n (show(2147483647:Int)≠0 by decide);omega
  have f:n % 2147483647+7919<2147491566:=by have:=zO n (show(0:Int)<2147483647 by decide);omega
  obtain⟨u,c,e,rfl,a,rfl⟩:=sS (g:=mgN 3) (b:=aH 4 (aj bw (aj aD (aj d7 (aa 4) (mC (.int 48271))) (mC (.int 104729))) (mC (.int 2147483629))))
   (λi ρ c=>c=O/\∃a,ρ=[some (.int n),some (.int k),none,a,some (.int (it (λm=>(m * 48271+104729) % 2147483629) i (n % 2147483647+7919)))]) (fP 0 (k+2).toNat) 0 [some (.int n),some (.int k),none,none,some (.int (n % 2147483647+7919))] O ⟨rfl,none,rfl⟩ (by
    rintro i d ρ c hi ⟨rfl,a,rfl⟩;refine⟨_,rfl,?_⟩;obtain⟨C,B⟩:=HQ i _ l f
    have:=xq (i:=it (λm=>(m * 48271+104729) % 2147483629) i (n % 2147483647+7919)) (j:=48271) (.inr ⟨by decide,by decide⟩)
    simp[this]
    rw[show it (λm=>(m * 48271+104729) % 2147483629) (i+1) (n % 2147483647+7919)=(it (λm=>(m * 48271+104729) % 2147483629) i (n % 2147483647+7919) * 48271+104729) % 2147483629 from rfl]
    exact⟨_,_,⟨rfl,rfl⟩,rfl,_,rfl⟩)
  rw[xx,zV] at e
  have q:k+2<=1000000000/\-1000000000<=k+2:=by omega
  obtain⟨C,B⟩:=HQ (k+2).toNat _ l f;have y:=xq (i:=it (λm=>(m * 48271+104729) % 2147483629) (k+2).toNat (n % 2147483647+7919)) (j:=it (λm=>(m * 48271+104729) % 2147483629) (k+2).toNat (n % 2147483647+7919)) (.inl ⟨by omega,by omega⟩);simp[xu,x,q,e,y]
def HR(cs:List Str)(f:Str)(d:D)(O:aq):Res D:=match d with
 | .ob n=>match O[n]? with
  |some (.ins c fs)=>if c∈cs then match fs.lookup f with
   |some y=>.ok y O
   |none=>.no else .no
  | _=>.no
 | _=>.no
@[simp] theorem WD{cs:List Str}{f:Str}{m:M D}{ρ:aA}{O:aq}:eQ cs f m ρ O=(m ρ O).bind (HR cs f):=rfl
def puF(cs:List Str)(f:Str)(d:D)(ρ:aA)(r:Res D):Fl:=match r with
 | .ok (.ob n) O2=>match O2[n]? with
  |some (.ins c fs)=>if c∈cs/\fs.length<900 then .nx ρ (O2.set n (.ins c (putD f d fs))) else .no
  | _=>.no
 | _=>.no
def sfF(cs:List Str)(f:Str)(a:M D)(r:Res D)(ρ:aA):Fl:=match r with
 | .ok d O1=>puF cs f d ρ (a ρ O1)
 | .ex x O'=>.ex x O'
 | .no=>.no
@[simp] theorem WK{cs:List Str}{f:Str}{c a:M D}{ρ:aA}{O:aq}:lJ cs f c a ρ O=sfF cs f c (a ρ O) ρ:=by
 unfold lJ sfF puF
 cases a ρ O<;>rfl
@[simp] theorem WL{cs:List Str}{f:Str}{a:M D}{d:D}{O:aq}{ρ:aA}:sfF cs f a (.ok d O) ρ=puF cs f d ρ (a ρ O):=rfl
def meF(c m:Str)(j:List D->aq->Res D)(f:aq->Res (List D))(d:D)(a:aq):Res D:=match d with
 | .ob n=>match a[n]? with
  |some (.ins c' fs)=>if c'=c/\(fs.lookup m).isNone=true then(f a).bind λg l=>j (.ob n::g) l else .no
  | _=>.no
 | _=>.no
@[simp] theorem WM{c m:Str}{f:List D->aq->Res D}{a:M D}{d:M (List D)}{ρ:aA}{O:aq}:bO c m f a d ρ O=(a ρ O).bind (meF c m f (d ρ)):=rfl
def mkF(n:Nat)(r:Res D):Res D:=match r with
 | .ok .non O2=>.ok (.ob n) O2
 | .ok _ _=>.no
 | .ex x O2=>.ex x O2
 | .no=>.no
@[simp] theorem WN{c:Str}{f:List D->aq->Res D}{d:M (List D)}{ρ:aA}{O:aq}:lL c f d ρ O=(d ρ O).bind λds a=>mkF a.length (f (.ob a.length::ds) (a++[.ins c []])):=by
 unfold lL;congr 1
@[simp] theorem WQ{n:Nat}{O:aq}:mkF n (.ok .non O)=.ok (.ob n) O:=rfl
def apF(i:Nat)(r:Res D)(ρ:aA):Fl:=match r with
 | .ok d O'=>match ρ[i]? with
  |some (some (.lst ds))=>if ds.length<1000000 then .nx (ρ.set i (some (.lst (ds++[d])))) O' else .no
  | _=>.no
 | .ex x O'=>.ex x O'
 | .no=>.no
@[simp] theorem WR{i:Nat}{m:M D}{ρ:aA}{O:aq}:cT i m ρ O=apF i (m ρ O) ρ:=rfl
theorem WT{i:Nat}{d:D}{ds:List D}{ρ:aA}{O:aq}(h:ρ[i]?=some (some (.lst ds)))(a:ds.length<1000000):apF i (.ok d O) ρ=.nx (ρ.set i (some (.lst (ds++[d])))) O:=by
 unfold apF;dsimp only;rw[h];dsimp only;rw[if_pos a]
def exF(i:Nat)(r:Res D)(ρ:aA):Fl:=match r with
 | .ok d O'=>match ρ[i]?,bG O' d with
  |some (some (.lst ds)),.lst es=>if ds.length+es.length<=1000000 then .nx (ρ.set i (some (.lst (ds++es)))) O' else .no
  | _,_=>.no
 | .ex x O'=>.ex x O'
 | .no=>.no
@[simp] theorem QyZ{i:Nat}{m:M D}{ρ:aA}{O:aq}:T5 i m ρ O=exF i (m ρ O) ρ:=rfl
def enF(d:D)(a:aq):Res (List D):=match d with
 | .lst ds=>.ok (ph 0 ds) a
 | .str l=>if ascii l=true then .ok (ph 0 (jY l)) a else .no
 | _=>.no
@[simp] theorem Qy1{m:M D}{ρ:aA}{O:aq}:Ub m ρ O=(m ρ O).bind enF:=rfl
def asF(r:Res D)(g:MG)(ρ:aA):Fl:=match r with
 | .ok d O'=>match g d ρ with
  |some a=>.nx a O'
  |none=>.no
 | .ex x O'=>.ex x O'
 | .no=>.no
@[simp] theorem QyW{m:M D}{g:MG}{ρ:aA}{O:aq}:SQ m g ρ O=asF (m ρ O) g ρ:=rfl
@[simp] theorem QzV{i j:Nat}{a b:D}{ρ:aA}:gh 2 (cG (mgN i) (cG (mgN j) gJ)) (.tup [a,b]) ρ=some ((ρ.set i (some a)).set j (some b)):=rfl
def stF(a b:D)(O:aq):Res D:=match a,b with
 | .str l,.str n=>.ok (.bl (decide (l.take n.length=n))) O
 | _,_=>.no
@[simp] theorem QxT{a b:M D}{ρ:aA}{O:aq}:TY a b ρ O=(a ρ O).bind λx d=>(b ρ d).bind λy c=>stF x y c:=rfl
@[simp] theorem QzQ{l n:List Nat}{O:aq}:stF (.str l) (.str n) O=.ok (.bl (decide (l.take n.length=n))) O:=rfl
theorem HS{t:M Bool}{b:MS}(d:Nat->aA->aq->Prop):∀(n:Nat) (k:Nat) (ρ:aA) (O:aq),k<n->d k ρ O ->
  (∀k ρ O,d (k+1) ρ O->t ρ O=.ok true O/\∃j a f,j<=k/\b ρ O=.nx a f/\d j a f)->(∀ρ O,d 0 ρ O->t ρ O=.ok false O)->∃c g,dU t b n ρ O=.nx c g/\d 0 c g
 | 0,k,ρ,O,hk,_,_,_=>absurd hk (Nat.not_lt_zero _)
 |n+1,0,ρ,O,_,h,_,h0=>by
  refine⟨ρ,O,?_,h⟩;unfold dU;rw[h0 ρ O h]
 |n+1,k+1,ρ,O,hk,h,hs,h0=>by
  obtain⟨q,j,a,f,r,m,h2⟩:=hs k ρ O h;obtain⟨c,g,l,h3⟩:=HS d n j a f (by omega) h2 hs h0;refine⟨c,g,?_,h3⟩;unfold dU;rw[q];dsimp only;rw[m];exact l
theorem nA{α:Type}{g:MG}{t:M Bool}{m:M D}(a:aA->Prop)(f h:α->D):∀(xs:List α) (ρ:aA) (O:aq) (acc:List D),a ρ->(∀x∈xs,∀ρ,a ρ->∃ρ1,g (f x) ρ=some ρ1/\a ρ1/\t ρ1 O=.ok true O/\m ρ1 O=.ok (h x) O)->cX g t m (xs.map f) ρ O acc=.ok (acc++xs.map h) O
 | [],ρ,O,acc,_,_=>by simp[cX]
 |x::xs,ρ,O,acc,hp,hs=>by
  obtain⟨ρ1,l,h1,j,d⟩:=hs x zg ρ hp;rw[zd];unfold cX;rw[l];dsimp only;rw[j];dsimp only;rw[d];dsimp only;rw[nA a f h xs ρ1 O _ h1 λn c=>hs n (zq _ c)];simp
def gm:List Nat:=[101,110,100]
def gn:List Nat:=[97,110,101,119]
def fV:List Nat:=[112,108,97,105,110]
def bN:List Nat:=[115,105,103,110]
def dO:List Nat:=[105,110,107]
def dX:List Nat:=[103,114,111,117,110,100]
def item(p:Int)(k v:List Nat):D:=.tup [.int p,.str k,.str v]
def col(c:Nat):Bool:=decide (c∈[97,98,99,100,101,102,103,104,46])
theorem sU{c:Nat}(h:col c=true):c≠91/\c≠93/\c≠47/\c≠10/\c≠9:=by
 have:c∈[97,98,99,100,101,102,103,104,46]:=zU h
 have q:∀c∈[97,98,99,100,101,102,103,104,46],c≠91/\c≠93/\c≠47/\c≠10/\c≠9:=by decide
 exact q c this
def j8(x:Nat):List Nat->List Nat×List Nat×Nat
 | []=>(bN,[91],0)
 |e::_=>if e=93 then(dX,[x],3) else(bN,[91],0)
def jF:List Nat->List Nat×List Nat×Nat
 | []=>(bN,[91],0)
 |x::t=>if col x=true then j8 x t else(bN,[91],0)
def iK(x:Nat):List Nat->List Nat×List Nat×Nat
 | []=>(bN,[91],0)
 |e::_=>if e=93 then(dO,[x],2) else(bN,[91],0)
def dY:List Nat->List Nat×List Nat×Nat
 | []=>(bN,[91],0)
 |d::t=>if d=93 then(fV,[],1) else if d=91 then(bN,[91],1) else if col d=true then iK d t else if d=47 then jF t else(bN,[91],0)
def one(c:Nat)(t:List Nat):List Nat×List Nat×Nat :=
 if c=10 then(gm,[],0) else if c=9 then(gn,[],0) else if c=91 then dY t else(bN,[c],0)
def items(p:Int):List Nat->List D
 | []=>[]
 |c::t=>item p (one c t).1 (one c t).2.1::items (p+((one c t).2.2+1:Nat)) (t.drop (one c t).2.2)
termination_by l=>l.length
decreasing_by
 simp only[List.length_drop,zv];omega
def own(p:Int)(c:Nat):D:=if c=10 then item p gm [] else if c=9 then item p gn [] else item p bN [c]
def owns:Int->List Nat->List D
 | _,[]=>[]
 |p,c::l=>own p c::owns (p+1) l
def WW:List Nat->Bool
 | [a]=>decide (a=91)
 | [a,b]=>decide (a=91)&&(decide (b=47) || col b)
 | [a,b,c]=>decide (a=91)&&(decide (b=47)&&col c)
 | _=>false
def markB:List Nat->Option (List Nat×List Nat)
 | [a,b]=>if a=91/\b=93 then some (fV,[]) else if a=91/\b=91 then some (bN,[91]) else none
 | [a,b,c]=>if a=91/\col b=true/\c=93 then some (dO,[b]) else none
 | [a,b,c,d]=>if a=91/\b=47/\col c=true/\d=93 then some (dX,[c]) else none
 | _=>none
def tk(h:List Nat)(c:Nat)(p:Int):List D×List Nat :=
 if WW (h++[c])=true then([],h++[c]) else match markB (h++[c]) with
 |some (k,v)=>([item p k v],[])
 |none=>if c=91 then(owns p h,[91]) else(owns p (h++[c]),[])
inductive lW:List Nat->Prop where
 | h0:lW []
 | h1:lW [91]
 | h2:lW [91,47]
 | h3 (x:Nat) (h:col x=true):lW [91,x]
 | h4 (x:Nat) (h:col x=true):lW [91,47,x]
theorem lW.len{h:List Nat}(H:lW h):h.length<=3:=by cases H<;>simp
theorem xA:col 47=false:=by decide
@[simp] theorem WY{l:List D}:lH [.lst l]=some (.lst l):=rfl
def fzF(f:Fl):Fl:=match f with
 | .rt d O'=>.rt d O'
 | _=>.no
@[simp] theorem QzN{m:MS}{ρ:aA}{O:aq}:pI m ρ O=fzF (m ρ O):=rfl
@[simp] theorem Qzb{d:D}{O:aq}:fzF (.rt d O)=.rt d O:=rfl
def ziF(d e:D)(O:aq):Res (List D):=match d,e with
 | .lst ds,.lst es=>.ok (rN ds es) O
 | _,_=>.no
@[simp] theorem QzP{a mb:M D}{ρ:aA}{O:aq}:Gj a mb ρ O=(a ρ O).bind λd f=>(mb ρ f).bind λe c=>ziF d e c:=by
 unfold Gj;congr 1
@[simp] theorem Qzo{ds es:List D}{O:aq}:ziF (.lst ds) (.lst es) O=.ok (rN ds es) O:=rfl
end L2
namespace L2
open PySem
section
variable {ρ ρ':aA}{O O' O1 O2:aq}{d:D}{x:Xc}{a b m:MS}{r:M D}{t:M Bool}{ma:M (List D)}{c:List D->aq->Res D}{ds:List D}
theorem gY(h:a ρ O=.nx ρ' O'):aC a b ρ O=b ρ' O':=by rw[gk,h,nu]
theorem xB(h:a ρ O=.rt d O'):aC a b ρ O=.rt d O':=by rw[gk,h,Wf]
theorem W0{g:MG}(h:ma ρ O=.ok ds O'):dq ma g b ρ O=b8 g b ds ρ O':=by rw[lU,h,lV]
end
end L2
namespace K38
open PySem L2
seal VE SE OE WE TsE TwE AE VS VSs VG VGs VI VIc VO VIf DPE
def top(i:Nat):Stmt:=PySem.Challenge.pw_outweave_k38_whole_less_never_more.main.body.getD i (.Pass ⟨0,0,0,0⟩)
local macro_rules | `(tactic| trivial) => `(tactic| exact ⟨rfl, rfl, rfl, by decide +kernel, rfl, by decide +kernel, by decide +kernel⟩)
section
variable {Pr:Program}{w:World}{K:Frag}{mg:Str->Option Value}{base:Heap}
abbrev xC:Stmt:=top 3
theorem W2:bQ ["kind","value"] ["kind","value"] (aX xC):=by trivial
def sV:MS :=
  (aC (bc (aB (aj gEq (aa 0) (mC (.str [115,105,103,110])))) (aZ (mIf (aB (aj gEq (aa 1) (mC (.str [91])))) (mC (.str [91,91])) (mG (aa 1)))) bz)
  (aC (bc (aB (aj gEq (aa 0) (mC (.str [105,110,107])))) (aZ (aj aD (aj aD (mC (.str [91])) (aa 1)) (mC (.str [93])))) bz)
  (aC (bc (aB (aj gEq (aa 0) (mC (.str [103,114,111,117,110,100])))) (aZ (aj aD (aj aD (mC (.str [91,47])) (aa 1)) (mC (.str [93])))) bz)
  (aC (bc (aB (aj gEq (aa 0) (mC (.str [112,108,97,105,110])))) (aZ (mC (.str [91,93]))) bz)
  (aZ (mIf (aB (aj gEq (aa 0) (mC (.str [101,110,100])))) (mC (.str [10])) (mC (.str [9]))))))))
def iM:List D->aq->Res D:=bV 2 sV
abbrev sW(Pr:Program)(w:World)(K:Frag)(mg:Str->Option Value)(base:Heap):Prop:=Can Pr w K mg base "written" ["kind","value"] 1 (vSp K mg [.s,.s] (rV K) iM)
theorem W3(g:Def K mg "written" xC)
  (B:cH mg)
  (NK:bY K=true)
  (d:∃u,mg "ANEW_SIGN" = some u/\RelV (.str (S [9])) u)
  (c:∃u,mg "ROW_END" = some u/\RelV (.str (S [10])) u):
  sW Pr w K mg base:=by
 refine cY (k:=0) (b:=sV) g W2 (λ_ _ _ _ _ _=>bF λ_=>bF λ_=>cL rfl) [.s,.s] [] cM (λ_ _ _ _=>Rp.non) (body:=λf j A outer s H E a P=>?_);refine aP ?_ ?_;refine cC ?_ ?_ cP;refine bB (bT a) (aO 0) (ao (aV [115,105,103,110])) (bx _);refine aY ?_;refine cB ?_;refine jU ?_ (aV [91,91]) (dw (aO 1));refine bB (bT a) (aO 1) (ao (aV [91])) (bx _);refine aP ?_ ?_;refine cC ?_ ?_ cP;refine bB (bT a) (aO 0) (ao (aV [105,110,107])) (bx _);refine aY ?_;refine cB ?_;refine bD ?_;refine aW bJ ?_ (ao (aV [93]));refine aM ?_;refine aW bJ (ao (aV [91])) (aO 1)
 refine aP ?_ ?_;refine cC ?_ ?_ cP;refine bB (bT a) (aO 0) (ao (aV [103,114,111,117,110,100])) (bx _);refine aY ?_;refine cB ?_;refine bD ?_;refine aW bJ ?_ (ao (aV [93]));refine aM ?_;refine aW bJ (ao (aV [91,47])) (aO 1);refine aP ?_ ?_;refine cC ?_ ?_ cP;refine bB (bT a) (aO 0) (ao (aV [112,108,97,105,110])) (bx _);refine aY (cB (aV [91,93]));refine aY ?_;refine cB ?_;refine jU ?_ ?_ ?_;refine bB (bT a) (aO 0) (ao (aV [101,110,100])) (bx _);refine Et c (λ_ _ _=>Rp.str);refine Et d (λ_ _ _=>Rp.str)
abbrev xG:Stmt:=top 7
theorem HW:bQ ["move","prices","beyond"] ["move","prices"] (aX xG):=by trivial
def sX:MS :=
  (aC (aH 2 (du (mG (aa 1)) (aj gIx (aa 0) (mC (.int 2)))))
  (aZ (mIf (aB (iC (aa 2))) (mC .non) (aj aD (aj gIx (aa 0) (mC (.int 0))) (aa 2)))))
def jG:List D->aq->Res D:=bV 3 sX
abbrev xH(Pr:Program)(w:World)(K:Frag)(mg:Str->Option Value)(base:Heap):Prop:=Can Pr w K mg base "cost_over" ["move","prices"] 1 (vSp K mg [.s,.s] (rV K) jG)
theorem W4(a:Def K mg "cost_over" xG)
  (B:cH mg)
  (NK:bY K=true):
  xH Pr w K mg base:=by
 refine cY (k:=0) (b:=sX) a HW (λ_ _ _ _ _ _=>bF λ_=>bF λ_=>cL rfl) [.s,.s] [.v] cM (λ_ _ _ _=>Rp.non) (body:=λf d A outer s H E c P=>?_);refine aP ?_ ?_;refine bu (i:=2) HW.nd rfl (.inl rfl) ?_;refine pR NK c (dw (aO 1)) ?_;refine bC (aO 0) (ao aF);refine aY ?_;refine cB ?_;refine jU ?_ oO ?_;refine vR (ao (az 2));refine bD ?_;refine aW bJ ?_ (ao (az 2));refine ao ?_;refine bC (aO 0) (ao aF)
abbrev pZ:Stmt:=top 8
theorem HX:bQ ["moves","prices","costs"] ["moves","prices"] (aX pZ):=by trivial
def sY:MS :=
  (aC (aH 2 (dJ (cJ (aa 0)) 1 [1] (mgN 0) fM (aG jG (ak (aa 0) (ak (aa 1) au)))))
  (aZ (bK rP (ak (dJ (cJ (aa 2)) 1 [] (mgN 0) (aB (gH (aa 0))) (aa 0)) au))))
def lX:List D->aq->Res D:=bV 3 sY
abbrev xK(Pr:Program)(w:World)(K:Frag)(mg:Str->Option Value)(base:Heap):Prop:=Can Pr w K mg base "least_cost" ["moves","prices"] 2 (vSp K mg [.s,.s] (rV K) lX)
theorem W5(a:Def K mg "least_cost" pZ)
  (B:cH mg)
  (NK:bY K=true)
  (c:xH Pr w K mg base):
  xK Pr w K mg base:=by
 refine cY (k:=1) (b:=sY) a HX (λ_ _ _ _ _ _=>bF λ_=>bF λ_=>cL rfl) [.s,.s] [.v] cM (λ_ _ _ _=>Rp.non) (body:=λf g A outer s H E d P=>?_);refine aP ?_ ?_;refine Fi (i:=2) (aX pZ) ["moves","prices","costs"] ["move"] [1] HX.nd rfl (.inl rfl) rfl (lM (aO 0)) (λ_ _ _ _ P=>?_) (λ_ _ _ _ P=>?_) (λ_ _ _ _ P=>?_);exact cU (i:=0) (show(bM ["moves","prices","costs"] ["move"] [1]).Nodup by decide +kernel) rfl (.inl rfl);exact oX;refine bL c (d.mono (by decide)) ?_;refine aK (ao (az 0)) ?_;refine aK (aO 1) aJ;refine aY ?_;refine cB ?_;refine bD ?_
 refine Uv rfl B.min_ ?_;refine aM ?_;refine mQ (aX pZ) ["moves","prices","costs"] ["cost"] [] rfl ?_ (λ_ _ _ _ P=>?_) (λ_ _ _ _ P=>?_) (λ_ _ _ _ P=>?_);refine lM (ao (az 2));exact cU (i:=0) (show(bM ["moves","prices","costs"] ["cost"] []).Nodup by decide +kernel) rfl (.inl rfl);refine vW ?_;refine Ey (ao (az 0));exact az 0
abbrev xO:Stmt:=inClass (top 17) 2
theorem W6:bQ ["self"] ["self"] (aX xO):=by trivial
def sZ:MS :=
  (aZ (aj aD (bK cR (ak (eQ ["Leaps"] "look" (aa 0)) au)) (mC (.int 1))))
def eX:List D->aq->Res D:=bV 1 sZ
abbrev p8(Pr:Program)(w:World)(K:Frag)(mg:Str->Option Value)(base:Heap):Prop:=fQ Pr w K mg base "Leaps" "last_at" ["self"] 1 (vSp K mg [.v] (rV K) eX)
theorem W7(a:lK K mg "Leaps" "last_at" "Leaps.last_at" xO)
  (B:cH mg)
  (NK:bY K=true)
  (c:KC K mg "Leaps" "look"):
  p8 Pr w K mg base:=by
 refine pB (k:=0) (b:=sZ) a W6 (λ_ _ _ _ _ _=>bF λ_=>cL rfl) [.v] [] cM (λ_ _ _ _=>Rp.non) (body:=λf d A outer s H E g P=>?_);refine aY ?_;refine cB ?_;refine bD ?_;refine aW bJ ?_ (ao aF);refine aM ?_;refine gj (ms:=[.s]) (hv:=gR) gP B.len_ ?_;refine aK ?_ aJ;refine ao (pA (lO c lN) (az 0))
abbrev tE:Stmt:=inClass (top 17) 3
theorem HY:bQ ["self","at","letter"] ["self","at"] (aX tE):=by trivial
def tG:MS :=
  (aC (bc (cO (aB (aj gEq (aa 1) (mC (.int 0)))) (aB (aj gEq (aa 1) (bO "Leaps" "last_at" eX (aa 0) au)))) (aZ (bA (ak (bH (ak (mG (aa 1)) (ak (mC (.tup [.str [46],.str [46]])) au))) au))) bz)
  (aC (aH 2 (aj gIx (eQ ["Leaps"] "look" (aa 0)) (aj oY (aa 1) (mC (.int 1)))))
  (aC (bc (aB (aj gEq (aj gIx (aa 2) (mC (.int 0))) (mC (.str [32])))) (aZ (dJ (cJ (eQ ["Leaps"] "inks" (aa 0))) 1 [1,2] (mgN 0) fM (bH (ak (mG (aa 1)) (ak (bH (ak (aa 0) (ak (aj gIx (aa 2) (mC (.int 2))) au))) au))))) bz)
  (aZ (bA (ak (bH (ak (mG (aa 1)) (ak (bH (ak (aj gIx (aa 2) (mC (.int 1))) (ak (aj gIx (aa 2) (mC (.int 2))) au))) au))) au))))))
def j9:List D->aq->Res D:=bV 3 tG
abbrev xQ(Pr:Program)(w:World)(K:Frag)(mg:Str->Option Value)(base:Heap):Prop:=fQ Pr w K mg base "Leaps" "nodes_at" ["self","at"] 2 (vSp K mg [.v,.s] (rO K) j9)
theorem W8(c:lK K mg "Leaps" "nodes_at" "Leaps.nodes_at" tE)
  (B:cH mg)
  (NK:bY K=true)
  (j:mZ K mg "PLAIN" [[46],[46]])
  (l:KC K mg "Leaps" "look")
  (d:KC K mg "Leaps" "inks")
  (g:p8 Pr w K mg base):
  xQ Pr w K mg base:=by
 refine pB (k:=1) (b:=tG) c HY (λ_ _ _ _ _ _=>bF λ_=>bF λ_=>cL rfl) [.v,.s] [.v] fB (λ_ _ _ _=>.inl ⟨rfl,Rp.non⟩) (body:=λf m A outer s H E a P=>?_);refine aP ?_ ?_;refine cC ?_ ?_ cP;refine fC ?_;refine jx ?_ ?_;refine bB (bT a) (aO 1) (ao aF) (bx _);refine jT ?_;refine bB (bT a) (aO 1) ?_ (bx _);refine ao (pH g (a.mono (by decide)) (az 0));refine aY ?_;refine jV ?_;refine cV 1 ?_;refine aQ ?_ aJ;refine dz 2 ?_;refine aQ (dw (aO 1)) ?_;refine aQ (pJ (ls:=[[46],[46]]) j) aJ;refine aP ?_ ?_;refine bu (i:=2) HY.nd rfl (.inr rfl) ?_
 refine bC ?_ ?_;refine ao (pA (lO l lN) (az 0));refine aM ?_;refine aW Te (aO 1) (ao aF);refine aP ?_ ?_;refine cC ?_ ?_ cP;refine bB (bT a) ?_ (ao (aV [32])) (bx _);refine ao ?_;refine bC (ao (az 2)) (ao aF);refine aY ?_;refine jV ?_;refine mQ (aX tE) ["self","at","letter"] ["ink"] [1,2] rfl ?_ (λ_ _ _ _ P=>?_) (λ_ _ _ _ P=>?_) (λ_ _ _ _ P=>?_);refine lM ?_;refine ao (pA (lO d lN) (az 0));exact cU (i:=0) (show(bM ["self","at","letter"] ["ink"] [1,2]).Nodup by decide +kernel) rfl (.inl rfl);exact oX;refine dz 2 ?_;refine aQ (dw (aO 1)) ?_
 refine aQ ?_ aJ;refine dz 2 ?_;refine aQ (az 0) ?_;refine aQ ?_ aJ;refine bC (ao (az 2)) (ao aF);refine aY ?_;refine jV ?_;refine cV 1 ?_;refine aQ ?_ aJ;refine dz 2 ?_;refine aQ (dw (aO 1)) ?_;refine aQ ?_ aJ;refine dz 2 ?_;refine aQ ?_ ?_;refine bC (ao (az 2)) (ao aF);refine aQ ?_ aJ;refine bC (ao (az 2)) (ao aF)
abbrev xT:Stmt:=top 15
theorem H9:bQ ["pair","kind","colour","place"] ["pair","kind","colour"] (aX xT):=by trivial
def nF:MS :=
  (aC (aH 3 (mIf (aB (aj gEq (aa 1) (mC (.str [105,110,107])))) (mC (.int 0)) (mC (.int 1))))
  (aZ (mIf (aB (aj gEq (aj gIx (aa 0) (aa 3)) (aa 2))) (mC (.str [])) (aG iM (ak (aa 1) (ak (aa 2) au))))))
def gZ:List D->aq->Res D:=bV 4 nF
abbrev Ia(Pr:Program)(w:World)(K:Frag)(mg:Str->Option Value)(base:Heap):Prop:=Can Pr w K mg base "marks_to" ["pair","kind","colour"] 2 (vSp K mg [.s,.s,.s] (rV K) gZ)
theorem W9(c:Def K mg "marks_to" xT)
  (B:cH mg)
  (NK:bY K=true)
  (d:sW Pr w K mg base):
  Ia Pr w K mg base:=by
 refine cY (k:=1) (b:=nF) c H9 (λ_ _ _ _ _ _=>bF λ_=>bF λ_=>bF λ_=>cL rfl) [.s,.s,.s] [.v] cM (λ_ _ _ _=>Rp.non) (body:=λf g A outer s H E a P=>?_);refine aP ?_ ?_;refine bu (i:=3) H9.nd rfl (.inl rfl) ?_;refine jU ?_ aF aF;refine bB (bT a) (aO 1) (ao (aV [105,110,107])) (bx _);refine aY ?_;refine cB ?_;refine jU ?_ (aV []) ?_;refine bB (bT a) ?_ (aO 2) (bx _);refine ao ?_;refine bC (aO 0) (ao (az 3));refine bL d (a.mono (by decide)) ?_;refine aK (aO 1) ?_;refine aK (aO 2) aJ
abbrev xV:Stmt:=top 16
theorem xW:bQ ["pair","other","straight","anew"] ["pair","other"] (aX xV):=by trivial
def tH:MS :=
  (aC (aH 2 (aj aD (aG gZ (ak (aa 0) (ak (mC (.str [105,110,107])) (ak (aj gIx (aa 1) (mC (.int 0))) au)))) (aG gZ (ak (aa 0) (ak (mC (.str [103,114,111,117,110,100])) (ak (aj gIx (aa 1) (mC (.int 1))) au))))))
  (aC (aH 3 (aj aD (aj aD (aG iM (ak (mC (.str [112,108,97,105,110])) (ak (mC (.str [])) au))) (aG gZ (ak (mC (.tup [.str [46],.str [46]])) (ak (mC (.str [105,110,107])) (ak (aj gIx (aa 1) (mC (.int 0))) au))))) (aG gZ (ak (mC (.tup [.str [46],.str [46]])) (ak (mC (.str [103,114,111,117,110,100])) (ak (aj gIx (aa 1) (mC (.int 1))) au))))))
  (aZ (mIf (aB (aj gLt (bK cR (ak (aa 3) au)) (bK cR (ak (aa 2) au)))) (aa 3) (aa 2)))))
def tK:List D->aq->Res D:=bV 4 tH
abbrev Ib(Pr:Program)(w:World)(K:Frag)(mg:Str->Option Value)(base:Heap):Prop:=Can Pr w K mg base "marks_between" ["pair","other"] 3 (vSp K mg [.s,.s] (rV K) tK)
theorem Xa(g:Def K mg "marks_between" xV)
  (B:cH mg)
  (NK:bY K=true)
  (d:mZ K mg "PLAIN" [[46],[46]])
  (c:Ia Pr w K mg base)
  (j:sW Pr w K mg base):
  Ib Pr w K mg base:=by
 refine cY (k:=2) (b:=tH) g xW (λ_ _ _ _ _ _=>bF λ_=>bF λ_=>cL rfl) [.s,.s] [.v,.v] cM (λ_ _ _ _=>Rp.non) (body:=λf l A outer s H E a P=>?_);refine aP ?_ ?_;refine bu (i:=2) xW.nd rfl (.inl rfl) ?_;refine bD ?_;refine aW bJ ?_ ?_;refine ao ?_;refine bL c (a.mono (by decide)) ?_;refine aK (aO 0) ?_;refine aK (ao (aV [105,110,107])) ?_;refine aK ?_ aJ;refine ao ?_;refine bC (aO 1) (ao aF);refine ao ?_;refine bL c (a.mono (by decide)) ?_;refine aK (aO 0) ?_;refine aK (ao (aV [103,114,111,117,110,100])) ?_;refine aK ?_ aJ;refine ao ?_;refine bC (aO 1) (ao aF)
 refine aP ?_ ?_;refine bu (i:=3) xW.nd rfl (.inl rfl) ?_;refine bD ?_;refine aW bJ ?_ ?_;refine aM ?_;refine aW bJ ?_ ?_;refine ao ?_;refine bL j (a.mono (by decide)) ?_;refine aK (ao (aV [112,108,97,105,110])) ?_;refine aK (ao (aV [])) aJ;refine ao ?_;refine bL c (a.mono (by decide)) ?_;refine aK (ao (pJ (ls:=[[46],[46]]) d)) ?_;refine aK (ao (aV [105,110,107])) ?_;refine aK ?_ aJ;refine ao ?_;refine bC (aO 1) (ao aF);refine ao ?_;refine bL c (a.mono (by decide)) ?_;refine aK (ao (pJ (ls:=[[46],[46]]) d)) ?_;refine aK (ao (aV [103,114,111,117,110,100])) ?_
 refine aK ?_ aJ;refine ao ?_;refine bC (aO 1) (ao aF);refine aY ?_;refine cB ?_;refine jU ?_ (az 3) (az 2);refine bB iH ?_ ?_ (bx _);refine aM ?_;refine gj (ms:=[.s]) (hv:=gR) gP B.len_ ?_;refine aK (ao (az 3)) aJ;refine aM ?_;refine gj (ms:=[.s]) (hv:=gR) gP B.len_ ?_;refine aK (ao (az 2)) aJ
abbrev xY:Stmt:=inClass (top 17) 4
theorem nH:bQ ["self","node","at","sign","moves","beyond","marks"] ["self","node"] (aX xY):=by trivial
def tL:MS :=
  (aC (aH 2 (aj gIx (aa 1) (mC (.int 0))))
  (aC (bc (aB (aj gEq (aa 2) (bO "Leaps" "last_at" eX (aa 0) au))) (aZ (bA au)) bz)
  (aC (aH 3 (mIf (aB (aj gLt (aa 2) (bK cR (ak (eQ ["Leaps"] "look" (aa 0)) au)))) (aG iM (ak (mC (.str [115,105,103,110])) (ak (aj gIx (aj gIx (eQ ["Leaps"] "look" (aa 0)) (aa 2)) (mC (.int 0))) au))) (mC (.str []))))
  (aC (aH 4 (bA au))
  (aC (dq (cJ (bO "Leaps" "nodes_at" j9 (aa 0) (ak (aj aD (aa 2) (mC (.int 1))) au))) (mgN 5) (aC (aH 6 (aG tK (ak (aj gIx (aa 1) (mC (.int 1))) (ak (aj gIx (aa 5) (mC (.int 1))) au))))
  (cT 4 (bH (ak (bK cR (ak (aa 6) au)) (ak (aj aD (aa 6) (aa 3)) (ak (aa 5) au)))))))
  (aZ (aa 4)))))))
def iQ:List D->aq->Res D:=bV 7 tL
abbrev xZ(Pr:Program)(w:World)(K:Frag)(mg:Str->Option Value)(base:Heap):Prop:=fQ Pr w K mg base "Leaps" "moves_from" ["self","node"] 4 (vSp K mg [.v,.s] (rO K) iQ)
theorem Xb(g:lK K mg "Leaps" "moves_from" "Leaps.moves_from" xY)
  (B:cH mg)
  (NK:bY K=true)
  (c:KC K mg "Leaps" "look")
  (m:p8 Pr w K mg base)
  (l:sW Pr w K mg base)
  (j:xQ Pr w K mg base)
  (d:Ib Pr w K mg base):
  xZ Pr w K mg base:=by
 refine pB (k:=3) (b:=tL) g nH (λ_ _ _ _ _ _=>bF λ_=>bF λ_=>cL rfl) [.v,.s] [.v,.v,.o,.v,.v] fB (λ_ _ _ _=>.inl ⟨rfl,Rp.non⟩) (body:=λf n A outer s H E a P=>?_);refine aP ?_ ?_;refine bu (i:=2) nH.nd rfl (.inl rfl) ?_;refine bC (aO 1) (ao aF);refine aP ?_ ?_;refine cC ?_ ?_ cP;refine bB (bT a) (ao (az 2)) ?_ (bx _);refine ao (pH m (a.mono (by decide)) (az 0));refine aY ?_;refine jV (cV 0 aJ);refine aP ?_ ?_;refine bu (i:=3) nH.nd rfl (.inl rfl) ?_;refine jU ?_ ?_ (aV []);refine bB iH (ao (az 2)) ?_ (bx _);refine aM ?_;refine gj (ms:=[.s]) (hv:=gR) gP B.len_ ?_
 refine aK ?_ aJ;refine ao (pA (lO c lN) (az 0));refine bL l (a.mono (by decide)) ?_;refine aK (ao (aV [115,105,103,110])) ?_;refine aK ?_ aJ;refine ao ?_;refine bC ?_ (ao aF);refine ao ?_;refine bC ?_ (ao (az 2));refine ao (pA (lO c lN) (az 0));refine aP ?_ ?_;refine oW (i:=4) nH.nd rfl (.inl rfl) (cV 0 aJ);refine aP ?_ (aY (q9 4));refine jy rfl ?_ (cU (i:=5) nH.nd rfl (.inl rfl)) ?_;refine pC ?_;refine v8 ?_;refine bD ?_;refine rM j (a.mono (by decide)) (az 0) ?_;refine aK ?_ aJ;refine aM ?_;refine aW bJ (ao (az 2)) (ao aF);refine aP ?_ ?_
 refine bu (i:=6) nH.nd rfl (.inl rfl) ?_;refine bL d (a.mono (by decide)) ?_;refine aK ?_ ?_;refine ao ?_;refine bC (aO 1) (ao aF);refine aK ?_ aJ;refine ao ?_;refine bC (ao (az 5)) (ao aF);refine aY ?_;refine jB 4 ?_;refine dz 3 ?_;refine aQ ?_ ?_;refine bD ?_;refine gj (ms:=[.s]) (hv:=gR) gP B.len_ ?_;refine aK (ao (az 6)) aJ;refine aQ ?_ ?_;refine bD ?_;refine aW bJ (ao (az 6)) (ao (az 3));refine aQ (az 5) aJ
abbrev yg:Stmt:=inClass (top 17) 5
theorem Xd:bQ ["self","node"] ["self","node"] (aX yg):=by trivial
def tO:MS :=
  (aZ (aj gEq (aj gIx (aa 1) (mC (.int 0))) (bO "Leaps" "last_at" eX (aa 0) au)))
def iR:List D->aq->Res D:=bV 2 tO
abbrev yh(Pr:Program)(w:World)(K:Frag)(mg:Str->Option Value)(base:Heap):Prop:=fQ Pr w K mg base "Leaps" "is_end" ["self","node"] 2 (vSp K mg [.v,.s] (rV K) iR)
theorem Xe(c:lK K mg "Leaps" "is_end" "Leaps.is_end" yg)
  (B:cH mg)
  (NK:bY K=true)
  (d:p8 Pr w K mg base):
  yh Pr w K mg base:=by
 refine pB (k:=1) (b:=tO) c Xd (λ_ _ _ _ _ _=>bF λ_=>bF λ_=>cL rfl) [.v,.s] [] cM (λ_ _ _ _=>Rp.non) (body:=λf g A outer s H E a P=>?_);refine aY ?_;refine cB ?_;refine bD ?_;refine lC (bT a) ?_ ?_ (bx _);refine ao ?_;refine bC (aO 1) (ao aF);refine ao (pH d (a.mono (by decide)) (az 0))
abbrev ym:Stmt:=top 9
theorem kh:bQ ["trail","at","prices","moves","node","changed","cost"] ["trail","at","prices"] (aX ym):=by trivial
def tQ:MS :=
  (aC (aH 3 pQ)
  (aC (dq (cJ (bO "Leaps" "nodes_at" j9 (mG (aa 0)) (ak (aa 1) au))) (mgN 4) (aC (fU (aa 3) (aa 4) (bO "Leaps" "moves_from" iQ (mG (aa 0)) (ak (aa 4) au)))
  (fU (mG (aa 2)) (aa 4) (mIf (cW (bO "Leaps" "is_end" iR (mG (aa 0)) (ak (aa 4) au))) (mC (.int 0)) (mC .non)))))
  (aC (aH 5 (mC (.bl true)))
  (gK 10 (cW (aa 5)) (aC (aH 5 (mC (.bl false)))
  (m9 3 (dq (m8 (aa 3)) (mgN 4) (aC (aH 6 (aG lX (ak (du (aa 3) (aa 4)) (ak (aa 2) au))))
  (bc (b7 (aB (gH (aa 6))) (cO (aB (iC (du (mG (aa 2)) (aa 4)))) (aB (aj gLt (aa 6) (du (mG (aa 2)) (aa 4)))))) (aC (fU (mG (aa 2)) (aa 4) (aa 6))
  (aH 5 (mC (.bl true)))) bz)))))))))
def qb:List D->aq->Res D:=bV 7 tQ
abbrev Ie(Pr:Program)(w:World)(K:Frag)(mg:Str->Option Value)(base:Heap):Prop:=Can Pr w K mg base "price_nodes" ["trail","at","prices"] 5 (vSp K mg [.s,.s,.s] (rV K) qb)
theorem Xf(c:Def K mg "price_nodes" ym)
  (B:cH mg)
  (NK:bY K=true)
  (l:xQ Pr w K mg base)
  (j:xZ Pr w K mg base)
  (g:yh Pr w K mg base)
  (d:xK Pr w K mg base):
  Ie Pr w K mg base:=by
 refine cY (k:=4) (b:=tQ) c kh (λ_ _ _ _ _ _=>bF λ_=>bF λ_=>bF λ_=>cL rfl) [.s,.s,.s] [.v,.v,.v,.v] cM (λ_ _ _ _=>Rp.non) (body:=λf m A outer s H E a P=>?_);refine aP (bu (i:=3) kh.nd rfl (.inl rfl) Hh) ?_;refine aP ?_ ?_;refine jy rfl ?_ (cU (i:=4) kh.nd rfl (.inl rfl)) ?_;refine pC ?_;refine v8 ?_;refine bD ?_;refine rM l (a.mono (by decide)) (dw (aO 0)) ?_;refine aK (aO 1) aJ;refine aP ?_ ?_;refine wZ NK a (az 3) (az 4) ?_;refine bD ?_;refine rM j (a.mono (by decide)) (dw (aO 0)) ?_;refine aK (ao (az 4)) aJ;refine aY ?_;refine wZ NK a (dw (aO 2)) (az 4) ?_
 refine jU ?_ aF oO;refine oR ?_;refine ao ?_;refine Gi g (a.mono (by decide)) (dw (aO 0)) ?_;refine aK (ao (az 4)) aJ;refine aP (bu (i:=5) kh.nd rfl (.inl rfl) lB) ?_;refine aY ?_;refine vV 10 ?_ ?_;refine oR (ao (az 5));refine aP (bu (i:=5) kh.nd rfl (.inl rfl) lB) ?_;refine aY ?_;refine V8 3 ?_;refine jy rfl (V7 (az 3)) (cU (i:=4) kh.nd rfl (.inl rfl)) ?_;refine aP ?_ ?_;refine bu (i:=6) kh.nd rfl (.inl rfl) ?_;refine bL d (a.mono (by decide)) ?_;refine aK ?_ ?_;refine ao ?_;refine pR NK a (az 3) (az 4);refine aK (aO 2) aJ;refine aY ?_;refine cC ?_ ?_ cP
 refine fC ?_;refine jw ?_ ?_;refine Ey (ao (az 6));refine mO ?_;refine fC ?_;refine jx ?_ ?_;refine vR ?_;refine ao ?_;refine pR NK a (dw (aO 2)) (az 4);refine jT ?_;refine bB iH (ao (az 6)) ?_ (bx _);refine ao ?_;refine pR NK a (dw (aO 2)) (az 4);refine aP ?_ ?_;refine wZ NK a (dw (aO 2)) (az 4) (az 6);refine aY (bu (i:=5) kh.nd rfl (.inl rfl) lB)
abbrev yp:Stmt:=top 10
theorem yq:bQ ["trail","prices","at"] ["trail"] (aX yp):=by trivial
def tR:MS :=
  (aC (aH 1 pQ)
  (aC (dq (rQ (ak (bO "Leaps" "last_at" eX (mG (aa 0)) au) (ak (mUn jz (mC (.int 1))) (ak (mUn jz (mC (.int 1))) au)))) (mgN 2) (oV (aG qb (ak (aa 0) (ak (aa 2) (ak (aa 1) au))))))
  (aZ (aa 1))))
def tU:List D->aq->Res D:=bV 3 tR
abbrev Ig(Pr:Program)(w:World)(K:Frag)(mg:Str->Option Value)(base:Heap):Prop:=Can Pr w K mg base "priced" ["trail"] 6 (vSp K mg [.s] (rV K) tU)
theorem Xg(d:Def K mg "priced" yp)
  (B:cH mg)
  (NK:bY K=true)
  (g:p8 Pr w K mg base)
  (c:Ie Pr w K mg base):
  Ig Pr w K mg base:=by
 refine cY (k:=5) (b:=tR) d yq (λ_ _ _ _ _ _=>bF λ_=>cL rfl) [.s] [.v,.v] cM (λ_ _ _ _=>Rp.non) (body:=λf j A outer s H E a P=>?_);refine aP (bu (i:=1) yq.nd rfl (.inl rfl) Hh) ?_;refine aP ?_ ?_;refine jy rfl ?_ (cU (i:=2) yq.nd rfl (.inl rfl)) ?_;refine UG B.range_ ?_;refine aK ?_ ?_;refine ao ?_;refine pH g (a.mono (by decide)) (dw (aO 0));refine aK ?_ ?_;refine aM ?_;refine rF (ao aF);refine aK ?_ aJ;refine aM ?_;refine rF (ao aF);refine aY ?_;refine SJ ?_;refine ao ?_;refine bL c (a.mono (by decide)) ?_;refine aK (aO 0) ?_;refine aK (ao (az 2)) ?_
 refine aK (ao (az 1)) aJ;refine aY (cB (az 1))
abbrev tV:Stmt:=top 11
theorem Ih:bQ ["moves","prices","least"] ["moves","prices"] (aX tV):=by trivial
def tW:MS :=
  (aC (aH 2 (aG lX (ak (aa 0) (ak (aa 1) au))))
  (aZ (aj gIx (dJ (cJ (aa 0)) 1 [1,2] (mgN 0) (aB (aj gEq (aG jG (ak (aa 0) (ak (aa 1) au))) (aa 2))) (aa 0)) (mC (.int 0)))))
def qd:List D->aq->Res D:=bV 3 tW
abbrev Ii(Pr:Program)(w:World)(K:Frag)(mg:Str->Option Value)(base:Heap):Prop:=Can Pr w K mg base "first_cheapest" ["moves","prices"] 3 (vSp K mg [.s,.s] (rV K) qd)
theorem Xh(c:Def K mg "first_cheapest" tV)
  (B:cH mg)
  (NK:bY K=true)
  (d:xK Pr w K mg base)
  (g:xH Pr w K mg base):
  Ii Pr w K mg base:=by
 refine cY (k:=2) (b:=tW) c Ih (λ_ _ _ _ _ _=>bF λ_=>bF λ_=>cL rfl) [.s,.s] [.v] cM (λ_ _ _ _=>Rp.non) (body:=λf j A outer s H E a P=>?_);refine aP ?_ ?_;refine bu (i:=2) Ih.nd rfl (.inr rfl) ?_;refine bL d (a.mono (by decide)) ?_;refine aK (aO 0) ?_;refine aK (aO 1) aJ;refine aY ?_;refine cB ?_;refine bC ?_ (ao aF);refine aM ?_;refine mQ (aX tV) ["moves","prices","least"] ["move"] [1,2] rfl (lM (aO 0)) (λ_ _ _ _ P=>?_) (λ_ _ _ _ P=>?_) (λ_ _ _ _ P=>?_);exact cU (i:=0) (show(bM ["moves","prices","least"] ["move"] [1,2]).Nodup by decide +kernel) rfl (.inl rfl)
 refine vW ?_;refine bB (bT a) ?_ (ao (az 2)) (bx _);refine ao ?_;refine bL g (a.mono (by decide)) ?_;refine aK (ao (az 0)) ?_;refine aK (aO 1) aJ;exact az 0
abbrev yw:Stmt:=inClass (top 17) 1
theorem Xi:bQ ["self"] ["self"] (aX yw):=by trivial
def Ij:MS :=
  (aZ (bH (ak (mC (.int 0)) (ak (mC (.tup [.str [46],.str [46]])) au))))
def tX:List D->aq->Res D:=bV 1 Ij
abbrev Ik(Pr:Program)(w:World)(K:Frag)(mg:Str->Option Value)(base:Heap):Prop:=fQ Pr w K mg base "Leaps" "first_node" ["self"] 1 (vSp K mg [.v] (rV K) tX)
theorem Xj(a:lK K mg "Leaps" "first_node" "Leaps.first_node" yw)
  (B:cH mg)
  (NK:bY K=true)
  (c:mZ K mg "PLAIN" [[46],[46]]):
  Ik Pr w K mg base:=by
 refine pB (k:=0) (b:=Ij) a Xi (λ_ _ _ _ _ _=>bF λ_=>cL rfl) [.v] [] cM (λ_ _ _ _=>Rp.non) (body:=λf d A outer s H E g P=>?_);refine aY ?_;refine cB ?_;refine dz 2 ?_;refine aQ aF ?_;refine aQ (pJ (ls:=[[46],[46]]) c) aJ
abbrev yz:Stmt:=top 12
theorem lY:bQ ["trail","prices","node","cost","names","move"] ["trail"] (aX yz):=by trivial
def tY:MS :=
  (aC (aH 1 (aG tU (ak (aa 0) au)))
  (aC (aH 2 (bO "Leaps" "first_node" tX (mG (aa 0)) au))
  (aC (aH 3 (du (aa 1) (aa 2)))
  (aC (bc (aB (iC (aa 3))) (aZ (mC .non)) bz)
  (aC (aH 4 (bA au))
  (aC (gK 300 (oU (cW (bO "Leaps" "is_end" iR (mG (aa 0)) (ak (aa 2) au)))) (aC (aH 5 (aG qd (ak (bO "Leaps" "moves_from" iQ (mG (aa 0)) (ak (aa 2) au)) (ak (aa 1) au))))
  (aC (cT 4 (aj gIx (aa 5) (mC (.int 1))))
  (aH 2 (aj gIx (aa 5) (mC (.int 2)))))))
  (pI (aZ (bH (ak (aa 3) (ak (aa 4) au)))))))))))
def qe:List D->aq->Res D:=bV 6 tY
abbrev Il(Pr:Program)(w:World)(K:Frag)(mg:Str->Option Value)(base:Heap):Prop:=Can Pr w K mg base "way_of" ["trail"] 7 (vSp K mg [.s] (rV K) qe)
theorem Xk(j:Def K mg "way_of" yz)
  (B:cH mg)
  (NK:bY K=true)
  (g:Ig Pr w K mg base)
  (d:Ik Pr w K mg base)
  (l:yh Pr w K mg base)
  (c:Ii Pr w K mg base)
  (m:xZ Pr w K mg base):
  Il Pr w K mg base:=by
 refine cY (k:=6) (b:=tY) j lY (λ_ _ _ _ _ _=>bF λ_=>cL rfl) [.s] [.v,.v,.v,.o,.v] cM (λ_ _ _ _=>Rp.non) (body:=λf n A outer s H E a P=>?_);refine aP ?_ ?_;refine bu (i:=1) lY.nd rfl (.inl rfl) ?_;refine bL g (a.mono (by decide)) ?_;refine aK (aO 0) aJ;refine aP ?_ ?_;refine bu (i:=2) lY.nd rfl (.inl rfl) ?_;refine pH d (a.mono (by decide)) (dw (aO 0));refine aP ?_ ?_;refine bu (i:=3) lY.nd rfl (.inl rfl) ?_;refine pR NK a (az 1) (az 2);refine aP ?_ ?_;refine cC ?_ ?_ cP;refine vR (ao (az 3));refine aY (cB oO);refine aP ?_ ?_;refine oW (i:=4) lY.nd rfl (.inl rfl) (cV 0 aJ)
 refine aP ?_ ?_;refine vV 300 ?_ ?_;refine Ss ?_;refine oR ?_;refine ao ?_;refine Gi l (a.mono (by decide)) (dw (aO 0)) ?_;refine aK (ao (az 2)) aJ;refine aP ?_ ?_;refine bu (i:=5) lY.nd rfl (.inl rfl) ?_;refine bL c (a.mono (by decide)) ?_;refine aK ?_ ?_;refine aM ?_;refine rM m (a.mono (by decide)) (dw (aO 0)) ?_;refine aK (ao (az 2)) aJ;refine aK (ao (az 1)) aJ;refine aP ?_ ?_;refine jB 4 ?_;refine bC (ao (az 5)) (ao aF);refine aY ?_;refine bu (i:=2) lY.nd rfl (.inl rfl) ?_;refine bC (ao (az 5)) (ao aF);refine aY ?_;refine Um 4 rfl ?_
 refine cB ?_;refine dz 2 ?_;refine aQ (az 3) ?_;refine aQ (az 4) aJ
abbrev tZ:Stmt:=top 14
theorem Xl:bQ ["look","place"] ["look","place"] (aX tZ):=by trivial
def t7:MS :=
  (aZ (bK pL (ak (aj aD (bA (ak (aj gIx (mC (.tup [.str [46],.str [46]])) (mC (.int 0))) au)) (dJ (cJ (aa 0)) 1 [1] (mgN 0) fM (aj gIx (aa 0) (aa 1)))) au)))
def nQ:List D->aq->Res D:=bV 2 t7
abbrev Im(Pr:Program)(w:World)(K:Frag)(mg:Str->Option Value)(base:Heap):Prop:=Can Pr w K mg base "colours_of" ["look","place"] 1 (vSp K mg [.s,.s] (rO K) nQ)
theorem Xm(a:Def K mg "colours_of" tZ)
  (B:cH mg)
  (NK:bY K=true)
  (c:mZ K mg "PLAIN" [[46],[46]]):
  Im Pr w K mg base:=by
 refine cY (k:=0) (b:=t7) a Xl (λ_ _ _ _ _ _=>bF λ_=>bF λ_=>cL rfl) [.s,.s] [] fB (λ_ _ _ _=>.inl ⟨rfl,Rp.non⟩) (body:=λf d A outer s H E g P=>?_);refine aY ?_;refine jV ?_;refine Vu (ms:=[.s]) rfl B.sorted_ B.set_ ?_;refine aK ?_ aJ;refine aM ?_;refine aW bJ ?_ ?_;refine aM ?_;refine cV 1 ?_;refine aQ ?_ aJ;refine bC (ao (pJ (ls:=[[46],[46]]) c)) (ao aF);refine aM ?_;refine mQ (aX tZ) ["look","place"] ["letter"] [1] rfl (lM (aO 0)) (λ_ _ _ _ P=>?_) (λ_ _ _ _ P=>?_) (λ_ _ _ _ P=>?_);exact cU (i:=0) (show(bM ["look","place"] ["letter"] [1]).Nodup by decide +kernel) rfl (.inl rfl)
 exact oX
 refine bC (ao (az 0)) (aO 1)
abbrev yH:Stmt:=inClass (top 17) 0
theorem Xn:bQ ["self","look"] ["self","look"] (aX yH):=by trivial
def t8:MS :=
  (aC (lJ ["Leaps"] "look" (aa 0) (bK lH (ak (aa 1) au)))
  (lJ ["Leaps"] "inks" (aa 0) (aG nQ (ak (aa 1) (ak (mC (.int 1)) au)))))
def qg:List D->aq->Res D:=bV 2 t8
abbrev Io(Pr:Program)(w:World)(K:Frag)(mg:Str->Option Value)(base:Heap):Prop:=rJ Pr w K mg base "Leaps" ["self","look"] 2 (vSp K mg [.v,.s] (rV K) qg)
theorem Xo(c:wk K mg "Leaps" "Leaps.__init__" yH)
  (B:cH mg)
  (NK:bY K=true)
  (j:KC K mg "Leaps" "look")
  (d:KC K mg "Leaps" "inks")
  (a:Im Pr w K mg base):
  Io Pr w K mg base:=by
 refine T6 (k:=1) (b:=t8) c Xn (λ_ _ _ _ _ _=>bF λ_=>bF λ_=>cL rfl) [.v,.s] [] cM (λ_ _ _ _=>Rp.non) (body:=λf l A outer s H E g P=>?_);refine aP ?_ ?_;refine FZ (lO j lN) (az 0) ?_;refine bD ?_;refine rG (ms:=[.s]) (hv:=FP) FJ B.list_ ?_;refine aK (aO 1) aJ;refine aY ?_;refine FZ (lO d lN) (az 0) ?_;refine bD ?_;refine mY a (g.mono (by decide)) ?_;refine aK (aO 1) ?_;refine aK (ao aF) aJ
abbrev yK:Stmt:=top 18
theorem Ip:bQ ["look","way"] ["look"] (aX yK):=by trivial
def uc:MS :=
  (aC (aH 1 (aG qe (ak (lL "Leaps" qg (ak (aa 0) au)) au)))
  (aZ (bH (ak (aj gIx (aa 1) (mC (.int 0))) (ak (pq (aj gIx (aa 1) (mC (.int 1)))) au)))))
def yL:List D->aq->Res D:=bV 2 uc
abbrev Ir(Pr:Program)(w:World)(K:Frag)(mg:Str->Option Value)(base:Heap):Prop:=Can Pr w K mg base "shaded_way" ["look"] 8 (vSp K mg [.s] (rV K) yL)
theorem Xp(g:Def K mg "shaded_way" yK)
  (B:cH mg)
  (NK:bY K=true)
  (d:Il Pr w K mg base)
  (c:Io Pr w K mg base):
  Ir Pr w K mg base:=by
 refine cY (k:=7) (b:=uc) g Ip (λ_ _ _ _ _ _=>bF λ_=>cL rfl) [.s] [.v] cM (λ_ _ _ _=>Rp.non) (body:=λf j A outer s H E a P=>?_);refine aP ?_ ?_;refine bu (i:=1) Ip.nd rfl (.inl rfl) ?_;refine bL d (a.mono (by decide)) ?_;refine aK ?_ aJ;refine ao ?_;refine T9 c (a.mono (by decide)) ?_;refine aK (aO 0) aJ;refine aY ?_;refine cB ?_;refine dz 2 ?_;refine aQ ?_ ?_;refine bC (ao (az 1)) (ao aF);refine aQ ?_ aJ;refine bD ?_;refine TX ?_;refine ao ?_;refine bC (ao (az 1)) (ao aF)
abbrev yP:Stmt:=top 19
theorem Xq:bQ ["look"] ["look"] (aX yP):=by trivial
def ud:MS :=
  (aZ (aj gIx (aG yL (ak (aa 0) au)) (mC (.int 1))))
def ue:List D->aq->Res D:=bV 1 ud
abbrev Iu(Pr:Program)(w:World)(K:Frag)(mg:Str->Option Value)(base:Heap):Prop:=Can Pr w K mg base "shaded" ["look"] 9 (vSp K mg [.s] (rV K) ue)
theorem Xr(c:Def K mg "shaded" yP)
  (B:cH mg)
  (NK:bY K=true)
  (a:Ir Pr w K mg base):
  Iu Pr w K mg base:=by
 refine cY (k:=8) (b:=ud) c Xq (λ_ _ _ _ _ _=>bF λ_=>cL rfl) [.s] [] cM (λ_ _ _ _=>Rp.non) (body:=λf g A outer s H E d P=>?_);refine aY ?_;refine cB ?_;refine bC ?_ (ao aF);refine ao ?_;refine bL a (d.mono (by decide)) ?_;refine aK (aO 0) aJ
abbrev yS:Stmt:=top 21
theorem Xu:bQ ["_law_script","_law_k"] ["_law_script","_law_k"] (aX yS):=by trivial
def uf:MS :=
  (aC (bc (aB (aj gLt (aa 1) (bK cR (ak (aa 0) au)))) (aZ (aj gIx (aa 0) (aa 1))) bz)
  (aZ (mC (.int 0))))
def kj:List D->aq->Res D:=bV 2 uf
abbrev yU(Pr:Program)(w:World)(K:Frag)(mg:Str->Option Value)(base:Heap):Prop:=Can Pr w K mg base "_law_cell_at" ["_law_script","_law_k"] 1 (vSp K mg [.s,.s] (rV K) kj)
theorem Xv(a:Def K mg "_law_cell_at" yS)
  (B:cH mg)
  (NK:bY K=true):
  yU Pr w K mg base:=by
 refine cY (k:=0) (b:=uf) a Xu (λ_ _ _ _ _ _=>bF λ_=>bF λ_=>cL rfl) [.s,.s] [] cM (λ_ _ _ _=>Rp.non) (body:=λf c A outer s H E d P=>?_);refine aP ?_ ?_;refine cC ?_ ?_ cP;refine bB iH (aO 1) ?_ (bx _);refine aM ?_;refine gj (ms:=[.s]) (hv:=gR) gP B.len_ ?_;refine aK (aO 0) aJ;refine aY ?_;refine cB ?_;refine bC (aO 0) (aO 1);refine aY (cB aF)
abbrev yW:Stmt:=top 22
theorem lZ:bQ ["_law_cell","_law_k","_law_rest","_law_turn","_law_number"] ["_law_cell","_law_k"] (aX yW):=by trivial
def Iv:MS :=
  (aC (bc (aB (aj gGt (aa 0) (aj iG (mC (.int 10)) (mC (.int 18))))) (aC (aH 2 (mG (aa 0)))
  (aC (dq (jA (ak (aa 1) au)) (mgN 3) (aH 2 (aj fD (aa 2) (aj iG (mC (.int 10)) (mC (.int 9))))))
  (aZ (aj bw (aa 2) (aj iG (mC (.int 10)) (mC (.int 9))))))) bz)
  (aC (aH 4 (aj aD (aj bw (aa 0) (mC (.int 2147483647))) (mC (.int 7919))))
  (aC (dq (jA (ak (aj aD (aa 1) (mC (.int 2))) au)) (mgN 3) (aH 4 (aj bw (aj aD (aj d7 (aa 4) (mC (.int 48271))) (mC (.int 104729))) (mC (.int 2147483629)))))
  (aZ (aj fD (aj bw (aj d7 (aa 4) (aa 4)) (mC (.int 998244353))) (mC (.int 11)))))))
def bZ:List D->aq->Res D:=bV 5 Iv
abbrev yX(Pr:Program)(w:World)(K:Frag)(mg:Str->Option Value)(base:Heap):Prop:=Can Pr w K mg base "_law_mix" ["_law_cell","_law_k"] 1 (vSp K mg [.s,.s] (rV K) bZ)
theorem Xw(a:Def K mg "_law_mix" yW)
  (B:cH mg)
  (NK:bY K=true):
  yX Pr w K mg base:=by
 refine cY (k:=0) (b:=Iv) a lZ (λ_ _ _ _ _ _=>bF λ_=>bF λ_=>cL rfl) [.s,.s] [.v,.v,.v] cM (λ_ _ _ _=>Rp.non) (body:=λf c A outer s H E d P=>?_);refine aP ?_ ?_;refine cC ?_ ?_ cP;refine bB o8 (aO 0) ?_ (bx _);refine aM ?_;refine aW vZ (ao aF) (ao aF);refine aP ?_ ?_;refine bu (i:=2) lZ.nd rfl (.inl rfl) (dw (aO 0));refine aP ?_ ?_;refine jy rfl ?_ (cU (i:=3) lZ.nd rfl (.inl rfl)) ?_;refine wj B.range_ ?_;refine aK (aO 1) aJ;refine aY ?_;refine bu (i:=2) lZ.nd rfl (.inl rfl) ?_;refine bD ?_;refine aW oZ (ao (az 2)) ?_;refine aM ?_;refine aW vZ (ao aF) (ao aF)
 refine aY ?_;refine cB ?_;refine bD ?_;refine aW c7 (ao (az 2)) ?_;refine aM ?_;refine aW vZ (ao aF) (ao aF);refine aP ?_ ?_;refine bu (i:=4) lZ.nd rfl (.inl rfl) ?_;refine bD ?_;refine aW bJ ?_ (ao aF);refine aM ?_;refine aW c7 (aO 0) (ao aF);refine aP ?_ ?_;refine jy rfl ?_ (cU (i:=3) lZ.nd rfl (.inl rfl)) ?_;refine wj B.range_ ?_;refine aK ?_ aJ;refine aM ?_;refine aW bJ (aO 1) (ao aF);refine aY ?_;refine bu (i:=4) lZ.nd rfl (.inl rfl) ?_;refine bD ?_;refine aW c7 ?_ (ao aF);refine aM ?_;refine aW bJ ?_ (ao aF);refine aM ?_;refine aW rE (ao (az 4)) (ao aF)
 refine aY ?_;refine cB ?_;refine bD ?_;refine aW oZ ?_ (ao aF);refine aM ?_;refine aW c7 ?_ (ao aF);refine aM ?_;refine aW rE (ao (az 4)) (ao (az 4))
abbrev ug:Stmt:=top 23
theorem Iw:bQ ["_law_cell","_law_many","_law_step"] ["_law_cell","_law_many"] (aX ug):=by trivial
def uh:MS :=
  (aC (aH 2 (aj gIx (bA (ak (mC (.int 1)) (ak (mC (.int 3)) (ak (mC (.int 5)) (ak (mC (.int 7)) au))))) (aj bw (aj fD (aa 0) (mC (.int 8))) (mC (.int 4)))))
  (aZ (aj aD (bA (ak (mC (.str [46])) au)) (dJ (jA (ak (aa 1) au)) 1 [0,2] (mgN 0) fM (aj gIx (mC (.str [97,98,99,100,101,102,103,104])) (aj bw (aj aD (aa 1) (aj d7 (aa 0) (aa 2))) (mC (.int 8))))))))
def nR:List D->aq->Res D:=bV 3 uh
abbrev Iz(Pr:Program)(w:World)(K:Frag)(mg:Str->Option Value)(base:Heap):Prop:=Can Pr w K mg base "_law_colours" ["_law_cell","_law_many"] 1 (vSp K mg [.s,.s] (rO K) nR)
theorem Xx(a:Def K mg "_law_colours" ug)
  (B:cH mg)
  (NK:bY K=true):
  Iz Pr w K mg base:=by
 refine cY (k:=0) (b:=uh) a Iw (λ_ _ _ _ _ _=>bF λ_=>bF λ_=>cL rfl) [.s,.s] [.v] fB (λ_ _ _ _=>.inl ⟨rfl,Rp.non⟩) (body:=λf c A outer s H E d P=>?_);refine aP ?_ ?_;refine bu (i:=2) Iw.nd rfl (.inr rfl) ?_;refine bC ?_ ?_;refine aM ?_;refine cV 4 ?_;refine aQ aF ?_;refine aQ aF ?_;refine aQ aF ?_;refine aQ aF aJ;refine aM ?_;refine aW c7 ?_ (ao aF);refine aM ?_;refine aW oZ (aO 0) (ao aF);refine aY ?_;refine jV ?_;refine aW bJ ?_ ?_;refine aM ?_;refine cV 1 ?_;refine aQ (aV [46]) aJ;refine aM ?_;refine mQ (aX ug) ["_law_cell","_law_many","_law_step"] ["_law_k"] [0,2] rfl ?_ (λ_ _ _ _ P=>?_) (λ_ _ _ _ P=>?_) (λ_ _ _ _ P=>?_)
 refine vU ?_;refine wj B.range_ ?_;refine aK (aO 1) aJ;exact cU (i:=0) (show(bM ["_law_cell","_law_many","_law_step"] ["_law_k"] [0,2]).Nodup by decide +kernel) rfl (.inl rfl);exact oX;refine bC (ao (aV [97,98,99,100,101,102,103,104])) ?_;refine aM ?_;refine aW c7 ?_ (ao aF);refine aM ?_;refine aW bJ (aO 1) ?_;refine aM ?_;refine aW rE (ao (az 0)) (ao (az 2))
abbrev z8:Stmt:=top 24
theorem IK:bQ ["_law_some"] [] (aX z8):=by trivial
def IV:MS :=
  (aC (aH 0 (mC (.str [32,33,34,35,36,38,39,40,41,42,43,44,45,46,47,48,49,50,51,52,53,54,55,56,57,58,59,60,61,62,63,64,65,66,67,68,69,70,71,72,73,74,75,76,77,78,79,80,81,82,83,84,85,86,87,88,89,90])))
  (aZ (aj aD (aa 0) (mC (.str [91,92,93,94,95,96,97,98,99,100,101,102,103,104,105,106,107,108,109,110,111,112,113,114,115,116,117,118,119,120,121,122,123,124,125])))))
def um:List D->aq->Res D:=bV 1 IV
abbrev IW(Pr:Program)(w:World)(K:Frag)(mg:Str->Option Value)(base:Heap):Prop:=Can Pr w K mg base "_law_signs" [] 1 (vSp K mg [] (rV K) um)
theorem Xy(a:Def K mg "_law_signs" z8)
  (B:cH mg)
  (NK:bY K=true):
  IW Pr w K mg base:=by
 refine cY (k:=0) (b:=IV) a IK (λ_ _ _ _ _ _=>cL rfl) [] [.v] cM (λ_ _ _ _=>Rp.non) (body:=λf c A outer s H E d P=>?_);refine aP (bu (i:=0) IK.nd rfl (.inl rfl) (aV [32,33,34,35,36,38,39,40,41,42,43,44,45,46,47,48,49,50,51,52,53,54,55,56,57,58,59,60,61,62,63,64,65,66,67,68,69,70,71,72,73,74,75,76,77,78,79,80,81,82,83,84,85,86,87,88,89,90])) ?_;refine aY ?_;refine cB ?_;refine bD ?_;refine aW bJ (ao (az 0)) (ao (aV [91,92,93,94,95,96,97,98,99,100,101,102,103,104,105,106,107,108,109,110,111,112,113,114,115,116,117,118,119,120,121,122,123,124,125]))
abbrev Aa:Stmt:=top 25
theorem eY:bQ ["_law_script","_law_head","_law_inks","_law_grounds","_law_shown_here","_law_ink","_law_ground","_law_cell","_law_pick","_law_sign","_law_seen"] ["_law_script"] (aX Aa):=by trivial
def uo:MS :=
  (aC (aH 1 (aG kj (ak (aa 0) (ak (mC (.int 0)) au))))
  (aC (aH 2 (aG nR (ak (aG bZ (ak (aa 1) (ak (mC (.int 1)) au))) (ak (aj gIx (bA (ak (mC (.int 3)) (ak (mC (.int 3)) (ak (mC (.int 1)) (ak (mC (.int 8)) au))))) (aj bw (aa 1) (mC (.int 4)))) au))))
  (aC (aH 3 (aG nR (ak (aG bZ (ak (aa 1) (ak (mC (.int 2)) au))) (ak (aj gIx (bA (ak (mC (.int 2)) (ak (mC (.int 1)) (ak (mC (.int 1)) (ak (mC (.int 8)) au))))) (aj bw (aa 1) (mC (.int 4)))) au))))
  (aC (aH 4 (bA au))
  (aC (aH 5 (mC (.str [46])))
  (aC (aH 6 (mC (.str [46])))
  (aC (dq (cJ (mSl (aa 0) (moS (mC (.int 2))) (moS (aj aD (mC (.int 2)) (aj gIx (bA (ak (mC (.int 20)) (ak (mC (.int 20)) (ak (mC (.int 20)) (ak (mC (.int 5)) au))))) (aj bw (aa 1) (mC (.int 4)))))))) (mgN 7) (aC (bc (aB (aj gEq (aj bw (aG bZ (ak (aa 7) (ak (mC (.int 3)) au))) (mC (.int 3))) (mC (.int 0)))) (aH 5 (aj gIx (aa 2) (aj bw (aG bZ (ak (aa 7) (ak (mC (.int 4)) au))) (bK cR (ak (aa 2) au))))) bz)
  (aC (bc (aB (aj gEq (aj bw (aG bZ (ak (aa 7) (ak (mC (.int 5)) au))) (mC (.int 4))) (mC (.int 0)))) (aH 6 (aj gIx (aa 3) (aj bw (aG bZ (ak (aa 7) (ak (mC (.int 6)) au))) (bK cR (ak (aa 3) au))))) bz)
  (aC (aH 8 (aG bZ (ak (aa 7) (ak (mC (.int 7)) au))))
  (aC (aH 9 (aj gIx (mC (.str [32,97,120,91,65,93,47,46,98,90,32,91,123,125,104])) (aj bw (aj fD (aa 8) (mC (.int 3))) (mC (.int 15)))))
  (aC (bc (aB (aj gEq (aj bw (aa 8) (mC (.int 3))) (mC (.int 2)))) (aH 9 (aj gIx (aG um au) (aj bw (aj fD (aa 8) (mC (.int 3))) (mC (.int 93))))) bz)
  (aC (aH 10 (bH (ak (aa 9) (ak (aj gIx (bA (ak (aa 5) (ak (mC (.str [46])) au))) (bK iI (ak (aj gEq (aa 9) (mC (.str [32]))) au))) (ak (aa 6) au)))))
  (aH 4 (aj aD (aa 4) (aj d7 (bA (ak (aa 10) au)) (aj aD (mC (.int 1)) (aj bw (aG bZ (ak (aa 7) (ak (mC (.int 8)) au))) (aj gIx (bA (ak (mC (.int 1)) (ak (mC (.int 1)) (ak (mC (.int 10)) (ak (mC (.int 1)) au))))) (aj bw (aa 1) (mC (.int 4))))))))))))))))
  (aZ (aa 4)))))))))
def qi:List D->aq->Res D:=bV 11 uo
abbrev Ja(Pr:Program)(w:World)(K:Frag)(mg:Str->Option Value)(base:Heap):Prop:=Can Pr w K mg base "_law_look" ["_law_script"] 2 (vSp K mg [.s] (rV K) qi)
theorem Xz(l:Def K mg "_law_look" Aa)
  (B:cH mg)
  (NK:bY K=true)
  (g:yU Pr w K mg base)
  (d:Iz Pr w K mg base)
  (c:yX Pr w K mg base)
  (j:IW Pr w K mg base):
  Ja Pr w K mg base:=by
 refine cY (k:=1) (b:=uo) l eY (λ_ _ _ _ _ _=>bF λ_=>cL rfl) [.s] [.v,.v,.v,.v,.v,.v,.v,.v,.v,.v] cM (λ_ _ _ _=>Rp.non) (body:=λf m A outer s H E a P=>?_);refine aP ?_ ?_;refine bu (i:=1) eY.nd rfl (.inl rfl) ?_;refine bL g (a.mono (by decide)) ?_;refine aK (aO 0) ?_;refine aK (ao aF) aJ;refine aP ?_ ?_;refine bu (i:=2) eY.nd rfl (.inl rfl) ?_;refine bD ?_;refine mY d (a.mono (by decide)) ?_;refine aK ?_ ?_;refine ao ?_;refine bL c (a.mono (by decide)) ?_;refine aK (ao (az 1)) ?_;refine aK (ao aF) aJ;refine aK ?_ aJ;refine ao ?_;refine bC ?_ ?_
 refine aM ?_;refine cV 4 ?_;refine aQ aF ?_;refine aQ aF ?_;refine aQ aF ?_;refine aQ aF aJ;refine aM ?_;refine aW c7 (ao (az 1)) (ao aF);refine aP ?_ ?_;refine bu (i:=3) eY.nd rfl (.inl rfl) ?_;refine bD ?_;refine mY d (a.mono (by decide)) ?_;refine aK ?_ ?_;refine ao ?_;refine bL c (a.mono (by decide)) ?_;refine aK (ao (az 1)) ?_;refine aK (ao aF) aJ;refine aK ?_ aJ;refine ao ?_;refine bC ?_ ?_;refine aM ?_;refine cV 4 ?_;refine aQ aF ?_;refine aQ aF ?_;refine aQ aF ?_;refine aQ aF aJ;refine aM ?_;refine aW c7 (ao (az 1)) (ao aF);refine aP ?_ ?_
 refine bu (i:=4) eY.nd rfl (.inl rfl) ?_;refine bD (cV 0 aJ);refine aP (bu (i:=5) eY.nd rfl (.inl rfl) (aV [46])) ?_;refine aP (bu (i:=6) eY.nd rfl (.inl rfl) (aV [46])) ?_;refine aP ?_ ?_;refine jy rfl ?_ (cU (i:=7) eY.nd rfl (.inl rfl)) ?_;refine pC ?_;refine v8 ?_;refine bD ?_;refine eO (aO 0) (dg aF) ?_;refine dg ?_;refine bD ?_;refine aW bJ (ao aF) ?_;refine ao ?_;refine bC ?_ ?_;refine aM ?_;refine cV 4 ?_;refine aQ aF ?_;refine aQ aF ?_;refine aQ aF ?_;refine aQ aF aJ;refine aM ?_;refine aW c7 (ao (az 1)) (ao aF);refine aP ?_ ?_;refine cC ?_ ?_ cP
 refine bB (bT a) ?_ (ao aF) (bx _);refine aM ?_;refine aW c7 ?_ (ao aF);refine ao ?_;refine bL c (a.mono (by decide)) ?_;refine aK (ao (az 7)) ?_;refine aK (ao aF) aJ;refine aY ?_;refine bu (i:=5) eY.nd rfl (.inl rfl) ?_;refine bC (ao (az 2)) ?_;refine aM ?_;refine aW c7 ?_ ?_;refine ao ?_;refine bL c (a.mono (by decide)) ?_;refine aK (ao (az 7)) ?_;refine aK (ao aF) aJ;refine aM ?_;refine gj (ms:=[.s]) (hv:=gR) gP B.len_ ?_;refine aK (ao (az 2)) aJ;refine aP ?_ ?_;refine cC ?_ ?_ cP;refine bB (bT a) ?_ (ao aF) (bx _);refine aM ?_;refine aW c7 ?_ (ao aF)
 refine ao ?_;refine bL c (a.mono (by decide)) ?_;refine aK (ao (az 7)) ?_;refine aK (ao aF) aJ;refine aY ?_;refine bu (i:=6) eY.nd rfl (.inl rfl) ?_;refine bC (ao (az 3)) ?_;refine aM ?_;refine aW c7 ?_ ?_;refine ao ?_;refine bL c (a.mono (by decide)) ?_;refine aK (ao (az 7)) ?_;refine aK (ao aF) aJ;refine aM ?_;refine gj (ms:=[.s]) (hv:=gR) gP B.len_ ?_;refine aK (ao (az 3)) aJ;refine aP ?_ ?_;refine bu (i:=8) eY.nd rfl (.inl rfl) ?_;refine bL c (a.mono (by decide)) ?_;refine aK (ao (az 7)) ?_;refine aK (ao aF) aJ;refine aP ?_ ?_;refine bu (i:=9) eY.nd rfl (.inl rfl) ?_
 refine bC (ao (aV [32,97,120,91,65,93,47,46,98,90,32,91,123,125,104])) ?_;refine aM ?_;refine aW c7 ?_ (ao aF);refine aM ?_;refine aW oZ (ao (az 8)) (ao aF);refine aP ?_ ?_;refine cC ?_ ?_ cP;refine bB (bT a) ?_ (ao aF) (bx _);refine aM ?_;refine aW c7 (ao (az 8)) (ao aF);refine aY ?_;refine bu (i:=9) eY.nd rfl (.inl rfl) ?_;refine bC (ao (Uk j (a.mono (by decide)))) ?_;refine aM ?_;refine aW c7 ?_ (ao aF);refine aM ?_;refine aW oZ (ao (az 8)) (ao aF);refine aP ?_ ?_;refine bu (i:=10) eY.nd rfl (.inl rfl) ?_;refine dz 3 ?_;refine aQ (az 9) ?_
 refine aQ ?_ ?_;refine bC ?_ ?_;refine aM ?_;refine cV 2 ?_;refine aQ (az 5) ?_;refine aQ (aV [46]) aJ;refine aM ?_;refine rG (ms:=[.s]) (hv:=FN) Fz B.int_ ?_;refine aK ?_ aJ;refine aM ?_;refine lC (bT a) (ao (az 9)) (ao (aV [32])) (bx _);refine aQ (az 6) aJ;refine aY ?_;refine bu (i:=4) eY.nd rfl (.inl rfl) ?_;refine bD ?_;refine aW bJ (ao (az 4)) ?_;refine aM ?_;refine aW rE ?_ ?_;refine aM ?_;refine cV 1 ?_;refine aQ (az 10) aJ;refine aM ?_;refine aW bJ (ao aF) ?_;refine aM ?_;refine aW c7 ?_ ?_;refine ao ?_;refine bL c (a.mono (by decide)) ?_
 refine aK (ao (az 7)) ?_;refine aK (ao aF) aJ;refine ao ?_;refine bC ?_ ?_;refine aM ?_;refine cV 4 ?_;refine aQ aF ?_;refine aQ aF ?_;refine aQ aF ?_;refine aQ aF aJ;refine aM ?_;refine aW c7 (ao (az 1)) (ao aF);refine aY (cB (az 4))
abbrev Ad:Stmt:=top 26
theorem XC:bQ ["_law_text"] ["_law_text"] (aX Ad):=by trivial
def Ae:MS :=
  (aZ (qZ (aj gEq (bK cR (ak (aa 0) au)) (mC (.int 1))) (aj (gIn false) (aa 0) (mC (.str [97,98,99,100,101,102,103,104,46])))))
def dZ:List D->aq->Res D:=bV 1 Ae
abbrev Jb(Pr:Program)(w:World)(K:Frag)(mg:Str->Option Value)(base:Heap):Prop:=Can Pr w K mg base "_law_is_colour" ["_law_text"] 1 (vSp K mg [.s] (rV K) dZ)
theorem XD(c:Def K mg "_law_is_colour" Ad)
  (B:cH mg)
  (NK:bY K=true):
  Jb Pr w K mg base:=by
 refine cY (k:=0) (b:=Ae) c XC (λ_ _ _ _ _ _=>bF λ_=>cL rfl) [.s] [] cM (λ_ _ _ _=>Rp.non) (body:=λf d A outer s H E a P=>?_);refine aY ?_;refine cB ?_;refine Sx ?_ ?_;refine bD ?_;refine lC (bT a) ?_ (ao aF) (bx _);refine aM ?_;refine gj (ms:=[.s]) (hv:=gR) gP B.len_ ?_;refine aK (aO 0) aJ;refine Sw ?_;refine bD ?_;refine lC Fy (aO 0) (ao (aV [97,98,99,100,101,102,103,104,46])) (by with_unfolding_all rfl)
abbrev Ag:Stmt:=top 27
theorem ur:bQ ["_law_text","_law_found","_law_at"] ["_law_text"] (aX Ag):=by trivial
def uv:MS :=
  (aC (aH 1 (bA au))
  (aC (aH 2 (mC (.int 0)))
  (aC (gK wF (aB (aj gLt (aa 2) (bK cR (ak (aa 0) au)))) (aC (bc (aB (aj gEq (mSl (aa 0) (moS (aa 2)) (moS (aj aD (aa 2) (mC (.int 2))))) (mC (.str [91,91])))) (cT 1 (bH (ak (mC (.str [115,105,103,110])) (ak (mC (.str [91])) (ak (mC (.int 2)) au))))) (bc (aB (aj gEq (mSl (aa 0) (moS (aa 2)) (moS (aj aD (aa 2) (mC (.int 2))))) (mC (.str [91,93])))) (cT 1 (bH (ak (mC (.str [112,108,97,105,110])) (ak (mC (.str [])) (ak (mC (.int 2)) au))))) (bc (b7 (aB (aj gEq (aj gIx (aa 0) (aa 2)) (mC (.str [91])))) (b7 (cW (aG dZ (ak (mSl (aa 0) (moS (aj aD (aa 2) (mC (.int 1)))) (moS (aj aD (aa 2) (mC (.int 2))))) au))) (aB (aj gEq (mSl (aa 0) (moS (aj aD (aa 2) (mC (.int 2)))) (moS (aj aD (aa 2) (mC (.int 3))))) (mC (.str [93])))))) (cT 1 (bH (ak (mC (.str [105,110,107])) (ak (aj gIx (aa 0) (aj aD (aa 2) (mC (.int 1)))) (ak (mC (.int 3)) au))))) (bc (b7 (aB (aj gEq (mSl (aa 0) (moS (aa 2)) (moS (aj aD (aa 2) (mC (.int 2))))) (mC (.str [91,47])))) (b7 (cW (aG dZ (ak (mSl (aa 0) (moS (aj aD (aa 2) (mC (.int 2)))) (moS (aj aD (aa 2) (mC (.int 3))))) au))) (aB (aj gEq (mSl (aa 0) (moS (aj aD (aa 2) (mC (.int 3)))) (moS (aj aD (aa 2) (mC (.int 4))))) (mC (.str [93])))))) (cT 1 (bH (ak (mC (.str [103,114,111,117,110,100])) (ak (aj gIx (aa 0) (aj aD (aa 2) (mC (.int 2)))) (ak (mC (.int 4)) au))))) (cT 1 (bH (ak (rK (pG (j0 (mC (.str [10])) (mC (.str [101,110,100])) (j0 (mC (.str [9])) (mC (.str [97,110,101,119])) pF))) (aj gIx (aa 0) (aa 2)) (mC (.str [115,105,103,110]))) (ak (aj gIx (aa 0) (aa 2)) (ak (mC (.int 1)) au)))))))))
  (aH 2 (aj aD (aa 2) (aj gIx (aj gIx (aa 1) (mUn jz (mC (.int 1)))) (mC (.int 2)))))))
  (aZ (aa 1)))))
def uw:List D->aq->Res D:=bV 3 uv
abbrev Jc(Pr:Program)(w:World)(K:Frag)(mg:Str->Option Value)(base:Heap):Prop:=Can Pr w K mg base "_law_read" ["_law_text"] 2 (vSp K mg [.s] (rO K) uw)
theorem XH(d:Def K mg "_law_read" Ag)
  (B:cH mg)
  (NK:bY K=true)
  (c:Jb Pr w K mg base):
  Jc Pr w K mg base:=by
 refine cY (k:=1) (b:=uv) d ur (λ_ _ _ _ _ _=>bF λ_=>cL rfl) [.s] [.o,.v] fB (λ_ _ _ _=>.inl ⟨rfl,Rp.non⟩) (body:=λf g A outer s H E a P=>?_);refine aP ?_ ?_;refine oW (i:=1) ur.nd rfl (.inl rfl) (cV 0 aJ);refine aP (bu (i:=2) ur.nd rfl (.inl rfl) aF) ?_;refine aP ?_ (aY (q9 1));refine vV wF ?_ ?_;refine bB iH (ao (az 2)) ?_ (bx _);refine aM ?_;refine gj (ms:=[.s]) (hv:=gR) gP B.len_ ?_;refine aK (aO 0) aJ;refine aP ?_ ?_;refine cC ?_ ?_ ?_;refine bB (bT a) ?_ (ao (aV [91,91])) (bx _);refine aM ?_;refine eO (aO 0) (dg (az 2)) ?_;refine dg ?_
 refine bD ?_;refine aW bJ (ao (az 2)) (ao aF);refine aY ?_;refine jB 1 ?_;refine dz 3 ?_;refine aQ (aV [115,105,103,110]) ?_;refine aQ (aV [91]) ?_;refine aQ aF aJ;refine aY ?_;refine cC ?_ ?_ ?_;refine bB (bT a) ?_ (ao (aV [91,93])) (bx _);refine aM ?_;refine eO (aO 0) (dg (az 2)) ?_;refine dg ?_;refine bD ?_;refine aW bJ (ao (az 2)) (ao aF);refine aY ?_;refine jB 1 ?_;refine dz 3 ?_;refine aQ (aV [112,108,97,105,110]) ?_;refine aQ (aV []) ?_;refine aQ aF aJ;refine aY ?_;refine cC ?_ ?_ ?_;refine fC ?_;refine jw ?_ ?_;refine bB (bT a) ?_ (ao (aV [91])) (bx _)
 refine ao ?_;refine bC (aO 0) (ao (az 2));refine jw ?_ ?_;refine oR ?_;refine ao ?_;refine bL c (a.mono (by decide)) ?_;refine aK ?_ aJ;refine aM ?_;refine eO (aO 0) ?_ ?_;refine dg ?_;refine bD ?_;refine aW bJ (ao (az 2)) (ao aF);refine dg ?_;refine bD ?_;refine aW bJ (ao (az 2)) (ao aF);refine mO ?_;refine bB (bT a) ?_ (ao (aV [93])) (bx _);refine aM ?_;refine eO (aO 0) ?_ ?_;refine dg ?_;refine bD ?_;refine aW bJ (ao (az 2)) (ao aF);refine dg ?_;refine bD ?_;refine aW bJ (ao (az 2)) (ao aF);refine aY ?_;refine jB 1 ?_;refine dz 3 ?_
 refine aQ (aV [105,110,107]) ?_;refine aQ ?_ ?_;refine bC (aO 0) ?_;refine aM ?_;refine aW bJ (ao (az 2)) (ao aF);refine aQ aF aJ;refine aY ?_;refine cC ?_ ?_ ?_;refine fC ?_;refine jw ?_ ?_;refine bB (bT a) ?_ (ao (aV [91,47])) (bx _);refine aM ?_;refine eO (aO 0) (dg (az 2)) ?_;refine dg ?_;refine bD ?_;refine aW bJ (ao (az 2)) (ao aF);refine jw ?_ ?_;refine oR ?_;refine ao ?_;refine bL c (a.mono (by decide)) ?_;refine aK ?_ aJ;refine aM ?_;refine eO (aO 0) ?_ ?_;refine dg ?_;refine bD ?_;refine aW bJ (ao (az 2)) (ao aF);refine dg ?_
 refine bD ?_;refine aW bJ (ao (az 2)) (ao aF);refine mO ?_;refine bB (bT a) ?_ (ao (aV [93])) (bx _);refine aM ?_;refine eO (aO 0) ?_ ?_;refine dg ?_;refine bD ?_;refine aW bJ (ao (az 2)) (ao aF);refine dg ?_;refine bD ?_;refine aW bJ (ao (az 2)) (ao aF);refine aY ?_;refine jB 1 ?_;refine dz 3 ?_;refine aQ (aV [103,114,111,117,110,100]) ?_;refine aQ ?_ ?_;refine bC (aO 0) ?_;refine aM ?_;refine aW bJ (ao (az 2)) (ao aF);refine aQ aF aJ;refine aY ?_;refine jB 1 ?_;refine dz 3 ?_;refine aQ ?_ ?_;refine Uj a ?_ ?_ (aV [115,105,103,110]);refine Ui ?_
 refine Gg (aV [10]) (aV [101,110,100]) ?_;refine Gg (aV [9]) (aV [97,110,101,119]) Uh;refine bC (aO 0) (ao (az 2));refine aQ ?_ ?_;refine bC (aO 0) (ao (az 2));refine aQ aF aJ;refine aY ?_;refine bu (i:=2) ur.nd rfl (.inl rfl) ?_;refine bD ?_;refine aW bJ (ao (az 2)) ?_;refine ao ?_;refine bC ?_ (ao aF);refine ao ?_;refine bC (aO 1) ?_;refine aM ?_;refine rF (ao aF)
abbrev Ai:Stmt:=top 28
theorem g8:bQ ["_law_items","_law_shown_here","_law_ink","_law_ground","_law_kind","_law_value","_law_size"] ["_law_items"] (aX Ai):=by trivial
def uy:MS :=
  (aC (aH 1 (bA au))
  (aC (aH 2 (mC (.str [46])))
  (aC (aH 3 (mC (.str [46])))
  (aC (dq (cJ (aa 0)) (gh 3 (cG (mgN 4) (cG (mgN 5) (cG (mgN 6) gJ)))) (aC (bc (cO (aB (aj gEq (aa 4) (mC (.str [101,110,100])))) (aB (aj gEq (aa 4) (mC (.str [97,110,101,119]))))) (aZ (mG (mC .non))) bz)
  (aC (bc (aB (aj gEq (aa 4) (mC (.str [115,105,103,110])))) (cT 1 (bH (ak (aa 5) (ak (aj gIx (bA (ak (aa 2) (ak (mC (.str [46])) au))) (bK iI (ak (aj gEq (aa 5) (mC (.str [32]))) au))) (ak (aa 3) au))))) bz)
  (aC (bc (aB (aj gEq (aa 4) (mC (.str [105,110,107])))) (aH 2 (aa 5)) bz)
  (aC (bc (aB (aj gEq (aa 4) (mC (.str [103,114,111,117,110,100])))) (aH 3 (aa 5)) bz)
  (bc (aB (aj gEq (aa 4) (mC (.str [112,108,97,105,110])))) (aC (aH 2 (mC (.str [46])))
  (aH 3 (mC (.str [46])))) bz))))))
  (aC (bc (cO (aB (aj gNe (aa 2) (mC (.str [46])))) (aB (aj gNe (aa 3) (mC (.str [46]))))) (aZ (mG (mC .non))) bz)
  (aZ (aa 1)))))))
def uz:List D->aq->Res D:=bV 7 uy
abbrev Jd(Pr:Program)(w:World)(K:Frag)(mg:Str->Option Value)(base:Heap):Prop:=Can Pr w K mg base "_law_shown" ["_law_items"] 1 (vSp K mg [.s] (rO K) uz)
theorem XJ(c:Def K mg "_law_shown" Ai)
  (B:cH mg)
  (NK:bY K=true):
  Jd Pr w K mg base:=by
 refine cY (k:=0) (b:=uy) c g8 (λ_ _ _ _ _ _=>bF λ_=>cL rfl) [.s] [.o,.v,.v,.v,.v,.v] fB (λ_ _ _ _=>.inl ⟨rfl,Rp.non⟩) (body:=λf d A outer s H E a P=>?_);refine aP ?_ ?_;refine oW (i:=1) g8.nd rfl (.inl rfl) (cV 0 aJ);refine aP (bu (i:=2) g8.nd rfl (.inl rfl) (aV [46])) ?_;refine aP (bu (i:=3) g8.nd rfl (.inl rfl) (aV [46])) ?_;refine aP ?_ ?_;refine jy rfl (pC (FQ 0)) ?_ ?_;refine rn 3 rfl ?_;refine gf (cU (i:=4) g8.nd rfl (.inl rfl)) ?_;refine gf (cU (i:=5) g8.nd rfl (.inl rfl)) ?_;refine gf (cU (i:=6) g8.nd rfl (.inl rfl)) rm;refine aP ?_ ?_
 refine cC ?_ ?_ cP;refine fC ?_;refine jx ?_ ?_;refine bB (bT a) (ao (az 4)) (ao (aV [101,110,100])) (bx _);refine jT ?_;refine bB (bT a) (ao (az 4)) (ao (aV [97,110,101,119])) (bx _);refine aY ?_;refine jV (Es oO);refine aP ?_ ?_;refine cC ?_ ?_ cP;refine bB (bT a) (ao (az 4)) (ao (aV [115,105,103,110])) (bx _);refine aY ?_;refine jB 1 ?_;refine dz 3 ?_;refine aQ (az 5) ?_;refine aQ ?_ ?_;refine bC ?_ ?_;refine aM ?_;refine cV 2 ?_;refine aQ (az 2) ?_;refine aQ (aV [46]) aJ;refine aM ?_;refine rG (ms:=[.s]) (hv:=FN) Fz B.int_ ?_;refine aK ?_ aJ
 refine aM ?_;refine lC (bT a) (ao (az 5)) (ao (aV [32])) (bx _);refine aQ (az 3) aJ;refine aP ?_ ?_;refine cC ?_ ?_ cP;refine bB (bT a) (ao (az 4)) (ao (aV [105,110,107])) (bx _);refine aY (bu (i:=2) g8.nd rfl (.inl rfl) (az 5));refine aP ?_ ?_;refine cC ?_ ?_ cP;refine bB (bT a) (ao (az 4)) (ao (aV [103,114,111,117,110,100])) (bx _);refine aY (bu (i:=3) g8.nd rfl (.inl rfl) (az 5));refine aY ?_;refine cC ?_ ?_ cP;refine bB (bT a) (ao (az 4)) (ao (aV [112,108,97,105,110])) (bx _);refine aP (bu (i:=2) g8.nd rfl (.inl rfl) (aV [46])) ?_;refine aY (bu (i:=3) g8.nd rfl (.inl rfl) (aV [46]))
 refine aP ?_ (aY (q9 1));refine cC ?_ ?_ cP;refine fC ?_;refine jx ?_ ?_;refine bB (mV a) (ao (az 2)) (ao (aV [46])) (bx _);refine jT ?_;refine bB (mV a) (ao (az 3)) (ao (aV [46])) (bx _);refine aY ?_;refine jV (Es oO)
abbrev uA:Stmt:=top 29
theorem XM:bQ ["_law_items"] ["_law_items"] (aX uA):=by trivial
def uB:MS :=
  (aZ (bK o9 (ak (dJ (cJ (aa 0)) 3 [] (gh 3 (cG (mgN 0) (cG (mgN 1) (cG (mgN 2) gJ)))) (aB (aj (gIn false) (aa 0) (bH (ak (mC (.str [105,110,107])) (ak (mC (.str [103,114,111,117,110,100])) (ak (mC (.str [112,108,97,105,110])) au)))))) (aa 2)) au)))
def Ak:List D->aq->Res D:=bV 1 uB
abbrev Je(Pr:Program)(w:World)(K:Frag)(mg:Str->Option Value)(base:Heap):Prop:=Can Pr w K mg base "_law_marks_cost" ["_law_items"] 1 (vSp K mg [.s] (rV K) Ak)
theorem XN(a:Def K mg "_law_marks_cost" uA)
  (B:cH mg)
  (NK:bY K=true):
  Je Pr w K mg base:=by
 refine cY (k:=0) (b:=uB) a XM (λ_ _ _ _ _ _=>bF λ_=>cL rfl) [.s] [] cM (λ_ _ _ _=>Rp.non) (body:=λf c A outer s H E d P=>?_);refine aY ?_;refine cB ?_;refine bD ?_;refine gj (ms:=[.s]) (hv:=Tw) (Tv rfl) B.sum_ ?_;refine aK ?_ aJ;refine aM ?_;refine mQ (aX uA) ["_law_items"] ["_law_kind","_law_value","_law_size"] [] rfl (lM (aO 0)) (λ_ _ _ _ P=>?_) (λ_ _ _ _ P=>?_) (λ_ _ _ _ P=>?_);refine rn 3 rfl ?_;refine gf (cU (i:=0) (show(bM ["_law_items"] ["_law_kind","_law_value","_law_size"] []).Nodup by decide +kernel) rfl (.inl rfl)) ?_;refine gf (cU (i:=1) (show(bM ["_law_items"] ["_law_kind","_law_value","_law_size"] []).Nodup by decide +kernel) rfl (.inl rfl)) ?_
 refine gf (cU (i:=2) (show(bM ["_law_items"] ["_law_kind","_law_value","_law_size"] []).Nodup by decide +kernel) rfl (.inl rfl)) rm;refine vW ?_;refine bB Fy (ao (az 0)) ?_ (by with_unfolding_all rfl);refine ao ?_;refine dz 3 ?_;refine aQ (aV [105,110,107]) ?_;refine aQ (aV [103,114,111,117,110,100]) ?_;refine aQ (aV [112,108,97,105,110]) aJ;exact az 2
abbrev Am:Stmt:=top 30
theorem Jf:bQ ["_law_shown_here","_law_items"] ["_law_shown_here"] (aX Am):=by trivial
def uC:MS :=
  (aC (aH 1 (aG uw (ak (aG ue (ak (bK lH (ak (aa 0) au)) au)) au)))
  (aC (bc (aB (aj gNe (aG uz (ak (aa 1) au)) (aa 0))) (aZ (mUn jz (mC (.int 1)))) bz)
  (aZ (aG Ak (ak (aa 1) au)))))
def dh:List D->aq->Res D:=bV 2 uC
abbrev Jg(Pr:Program)(w:World)(K:Frag)(mg:Str->Option Value)(base:Heap):Prop:=Can Pr w K mg base "_law_cost" ["_law_shown_here"] 10 (vSp K mg [.s] (rV K) dh)
theorem XQ(l:Def K mg "_law_cost" Am)
  (B:cH mg)
  (NK:bY K=true)
  (j:Jc Pr w K mg base)
  (g:Iu Pr w K mg base)
  (d:Jd Pr w K mg base)
  (c:Je Pr w K mg base):
  Jg Pr w K mg base:=by
 refine cY (k:=9) (b:=uC) l Jf (λ_ _ _ _ _ _=>bF λ_=>cL rfl) [.s] [.v] cM (λ_ _ _ _=>Rp.non) (body:=λf m A outer s H E a P=>?_);refine aP ?_ ?_;refine bu (i:=1) Jf.nd rfl (.inl rfl) ?_;refine bD ?_;refine mY j (a.mono (by decide)) ?_;refine aK ?_ aJ;refine ao ?_;refine bL g (a.mono (by decide)) ?_;refine aK ?_ aJ;refine aM ?_;refine rG (ms:=[.s]) (hv:=FP) FJ B.list_ ?_;refine aK (aO 0) aJ;refine aP ?_ ?_;refine cC ?_ ?_ cP;refine bB (mV a) ?_ (aO 0) (bx _);refine aM ?_;refine mY d (a.mono (by decide)) ?_;refine aK (ao (az 1)) aJ;refine aY ?_
 refine cB ?_;refine bD ?_;refine rF (ao aF);refine aY ?_;refine cB ?_;refine bL c (a.mono (by decide)) ?_;refine aK (ao (az 1)) aJ
abbrev Aw:Stmt:=top 31
theorem mj:bQ ["_law_shown_here","_law_one","_law_other","_law_which","_law_found","_law_sign","_law_ink","_law_ground"] ["_law_shown_here","_law_one","_law_other","_law_which"] (aX Aw):=by trivial
def uD:MS :=
  (aC (aH 4 (bA au))
  (aC (dq (cJ (aa 0)) (gh 3 (cG (mgN 5) (cG (mgN 6) (cG (mgN 7) gJ)))) (aC (bc (b7 (aB (aj gEq (aa 3) (mC (.int 0)))) (b7 (aB (aj gEq (aa 6) (aa 1))) (aB (aj gNe (aa 5) (mC (.str [32])))))) (aH 6 (mG (aa 2))) bz)
  (aC (bc (b7 (aB (aj gEq (aa 3) (mC (.int 1)))) (aB (aj gEq (aa 7) (aa 1)))) (aH 7 (mG (aa 2))) bz)
  (cT 4 (bH (ak (aa 5) (ak (aa 6) (ak (aa 7) au))))))))
  (aZ (aa 4))))
def nW:List D->aq->Res D:=bV 8 uD
abbrev Jh(Pr:Program)(w:World)(K:Frag)(mg:Str->Option Value)(base:Heap):Prop:=Can Pr w K mg base "_law_recoloured" ["_law_shown_here","_law_one","_law_other","_law_which"] 1 (vSp K mg [.s,.s,.s,.s] (rO K) nW)
theorem XR(c:Def K mg "_law_recoloured" Aw)
  (B:cH mg)
  (NK:bY K=true):
  Jh Pr w K mg base:=by
 refine cY (k:=0) (b:=uD) c mj (λ_ _ _ _ _ _=>bF λ_=>bF λ_=>bF λ_=>bF λ_=>cL rfl) [.s,.s,.s,.s] [.o,.v,.v,.v] fB (λ_ _ _ _=>.inl ⟨rfl,Rp.non⟩) (body:=λf d A outer s H E a P=>?_);refine aP ?_ ?_;refine oW (i:=4) mj.nd rfl (.inl rfl) (cV 0 aJ);refine aP ?_ (aY (q9 4));refine jy rfl (pC (FQ 0)) ?_ ?_;refine rn 3 rfl ?_;refine gf (cU (i:=5) mj.nd rfl (.inl rfl)) ?_;refine gf (cU (i:=6) mj.nd rfl (.inl rfl)) ?_;refine gf (cU (i:=7) mj.nd rfl (.inl rfl)) rm;refine aP ?_ ?_;refine cC ?_ ?_ cP;refine fC ?_;refine jw ?_ ?_;refine bB (bT a) (aO 3) (ao aF) (bx _)
 refine jw ?_ ?_;refine bB (bT a) (ao (az 6)) (aO 1) (bx _);refine mO ?_;refine bB (mV a) (ao (az 5)) (ao (aV [32])) (bx _);refine aY ?_;refine bu (i:=6) mj.nd rfl (.inl rfl) (dw (aO 2));refine aP ?_ ?_;refine cC ?_ ?_ cP;refine fC ?_;refine jw ?_ ?_;refine bB (bT a) (aO 3) (ao aF) (bx _);refine mO ?_;refine bB (bT a) (ao (az 7)) (aO 1) (bx _);refine aY ?_;refine bu (i:=7) mj.nd rfl (.inl rfl) (dw (aO 2));refine aY ?_;refine jB 4 ?_;refine dz 3 ?_;refine aQ (az 5) ?_;refine aQ (az 6) ?_;refine aQ (az 7) aJ
abbrev ig:Stmt:=top 32
theorem fG:bQ ["_law_script","_law_shown_here","_law_head","_law_cost_here","_law_at","_law_less","_law_one","_law_which","_law_other","_law_turned","_law_emptied","_law_new","_law_more","_law_bare"] ["_law_script"] (aX ig):=by trivial
def uE:MS :=
  (aC (aH 1 (mSl (aG qi (ak (aa 0) au)) moN (moS (mC (.int 12)))))
  (aC (aH 2 (aG kj (ak (aa 0) (ak (mC (.int 1)) au))))
  (aC (bc (aB (aj gEq (aa 1) (bA au))) (aZ (aj gEq (aG dh (ak (bA au) au)) (mC (.int 0)))) bz)
  (aC (aH 3 (aG dh (ak (aa 1) au)))
  (aC (aH 4 (aj bw (aG bZ (ak (aa 2) (ak (mC (.int 1)) au))) (bK cR (ak (aa 1) au))))
  (aC (aH 5 (aG dh (ak (aj aD (mSl (aa 1) moN (moS (aa 4))) (mSl (aa 1) (moS (aj aD (aa 4) (mC (.int 1)))) moN)) au)))
  (aC (bc (cO (aB (aj gLt (aa 3) (mC (.int 0)))) (cO (aB (aj gLt (aa 5) (mC (.int 0)))) (aB (aj gGt (aa 5) (aa 3))))) (aZ (mC (.bl false))) bz)
  (aC (aH 6 (aj gIx (aa 1) (aa 4)))
  (aC (aH 7 (aj bw (aG bZ (ak (aa 2) (ak (mC (.int 2)) au))) (mC (.int 2))))
  (aC (aH 8 (aj gIx (bA (ak (mC (.str [46])) (ak (mC (.str [97])) (ak (mC (.str [99])) (ak (mC (.str [104])) au))))) (aj bw (aG bZ (ak (aa 2) (ak (mC (.int 3)) au))) (mC (.int 4)))))
  (aC (bc (b7 (aB (aj gNe (aj gIx (aa 6) (mC (.int 0))) (mC (.str [32])))) (aB (aj gNe (aj gIx (aa 6) (aj aD (mC (.int 1)) (aa 7))) (mC (.str [46]))))) (aC (aH 9 (aG dh (ak (aG nW (ak (aa 1) (ak (aj gIx (aa 6) (aj aD (mC (.int 1)) (aa 7))) (ak (aa 8) (ak (aa 7) au))))) au)))
  (bc (cO (aB (aj gLt (aa 9) (mC (.int 0)))) (aB (aj gGt (aa 9) (aa 3)))) (aZ (mC (.bl false))) bz)) bz)
  (aC (aH 10 (aG dh (ak (aj aD (aj aD (mSl (aa 1) moN (moS (aa 4))) (bA (ak (bH (ak (mC (.str [32])) (ak (mC (.str [46])) (ak (aj gIx (aa 6) (mC (.int 2))) au)))) au))) (mSl (aa 1) (moS (aj aD (aa 4) (mC (.int 1)))) moN)) au)))
  (aC (bc (cO (aB (aj gLt (aa 10) (mC (.int 0)))) (aB (aj gGt (aa 10) (aa 3)))) (aZ (mC (.bl false))) bz)
  (aC (aH 11 (bH (ak (mC (.str [107])) (ak (aj gIx (mC (.str [97,98,99,100,101,102,103,104,46])) (aj bw (aG bZ (ak (aa 2) (ak (mC (.int 4)) au))) (mC (.int 9)))) (ak (aj gIx (mC (.str [97,98,99,100,101,102,103,104,46])) (aj bw (aG bZ (ak (aa 2) (ak (mC (.int 5)) au))) (mC (.int 9)))) au)))))
  (aC (aH 12 (aG dh (ak (aj aD (aj aD (mSl (aa 1) moN (moS (aa 4))) (bA (ak (aa 11) au))) (mSl (aa 1) (moS (aa 4)) moN)) au)))
  (aC (bc (cO (aB (aj gLt (aa 12) (aa 3))) (aB (aj gGt (aa 12) (aj aD (aa 3) (mC (.int 14)))))) (aZ (mC (.bl false))) bz)
  (aC (aH 13 (dJ (cJ (aa 1)) 3 [] (gh 3 (cG (mgN 0) (cG (mgN 1) (cG (mgN 2) gJ)))) fM (bH (ak (aa 0) (ak (mC (.str [46])) (ak (mC (.str [46])) au))))))
  (aZ (aj gEq (aG dh (ak (aa 13) au)) (mC (.int 0)))))))))))))))))))))
def Az:List D->aq->Res D:=bV 14 uE
abbrev XS(Pr:Program)(w:World)(K:Frag)(mg:Str->Option Value)(base:Heap):Prop:=Can Pr w K mg base "law" ["_law_script"] 11 (vSp K mg [.s] (rV K) Az)
theorem XX(m:Def K mg "law" ig)
  (B:cH mg)
  (NK:bY K=true)
  (l:Ja Pr w K mg base)
  (g:yU Pr w K mg base)
  (c:Jg Pr w K mg base)
  (d:yX Pr w K mg base)
  (j:Jh Pr w K mg base):
  XS Pr w K mg base:=by
 refine cY (k:=10) (b:=uE) m fG (λ_ _ _ _ _ _=>bF λ_=>cL rfl) [.s] [.v,.v,.v,.v,.v,.v,.v,.v,.v,.v,.v,.v,.v] cM (λ_ _ _ _=>Rp.non) (body:=λf n A outer s H E a P=>?_);refine aP ?_ ?_;refine bu (i:=1) fG.nd rfl (.inl rfl) ?_;refine bD ?_;refine eO ?_ lG (dg aF);refine ao ?_;refine bL l (a.mono (by decide)) ?_;refine aK (aO 0) aJ;refine aP ?_ ?_;refine bu (i:=2) fG.nd rfl (.inl rfl) ?_;refine bL g (a.mono (by decide)) ?_;refine aK (aO 0) ?_;refine aK (ao aF) aJ;refine aP ?_ ?_;refine cC ?_ ?_ cP;refine bB (bT a) (ao (az 1)) ?_ (bx _);refine aM (cV 0 aJ)
 refine aY ?_;refine cB ?_;refine bD ?_;refine lC (bT a) ?_ (ao aF) (bx _);refine ao ?_;refine bL c (a.mono (by decide)) ?_;refine aK ?_ aJ;refine aM (cV 0 aJ);refine aP ?_ ?_;refine bu (i:=3) fG.nd rfl (.inl rfl) ?_;refine bL c (a.mono (by decide)) ?_;refine aK (ao (az 1)) aJ;refine aP ?_ ?_;refine bu (i:=4) fG.nd rfl (.inl rfl) ?_;refine bD ?_;refine aW c7 ?_ ?_;refine ao ?_;refine bL d (a.mono (by decide)) ?_;refine aK (ao (az 2)) ?_;refine aK (ao aF) aJ;refine aM ?_;refine gj (ms:=[.s]) (hv:=gR) gP B.len_ ?_;refine aK (ao (az 1)) aJ;refine aP ?_ ?_
 refine bu (i:=5) fG.nd rfl (.inl rfl) ?_;refine bL c (a.mono (by decide)) ?_;refine aK ?_ aJ;refine aM ?_;refine aW bJ ?_ ?_;refine aM ?_;refine eO (ao (az 1)) lG (dg (az 4));refine aM ?_;refine eO (ao (az 1)) ?_ lG;refine dg ?_;refine bD ?_;refine aW bJ (ao (az 4)) (ao aF);refine aP ?_ ?_;refine cC ?_ ?_ cP;refine fC ?_;refine jx ?_ ?_;refine bB iH (ao (az 3)) (ao aF) (bx _);refine jx ?_ ?_;refine bB iH (ao (az 5)) (ao aF) (bx _);refine jT ?_;refine bB o8 (ao (az 5)) (ao (az 3)) (bx _);refine aY (cB lB);refine aP ?_ ?_;refine bu (i:=6) fG.nd rfl (.inl rfl) ?_
 refine bC (ao (az 1)) (ao (az 4));refine aP ?_ ?_;refine bu (i:=7) fG.nd rfl (.inl rfl) ?_;refine bD ?_;refine aW c7 ?_ (ao aF);refine ao ?_;refine bL d (a.mono (by decide)) ?_;refine aK (ao (az 2)) ?_;refine aK (ao aF) aJ;refine aP ?_ ?_;refine bu (i:=8) fG.nd rfl (.inl rfl) ?_;refine bC ?_ ?_;refine aM ?_;refine cV 4 ?_;refine aQ (aV [46]) ?_;refine aQ (aV [97]) ?_;refine aQ (aV [99]) ?_;refine aQ (aV [104]) aJ;refine aM ?_;refine aW c7 ?_ (ao aF);refine ao ?_;refine bL d (a.mono (by decide)) ?_;refine aK (ao (az 2)) ?_;refine aK (ao aF) aJ
 refine aP ?_ ?_;refine cC ?_ ?_ cP;refine fC ?_;refine jw ?_ ?_;refine bB (mV a) ?_ (ao (aV [32])) (bx _);refine ao ?_;refine bC (ao (az 6)) (ao aF);refine mO ?_;refine bB (mV a) ?_ (ao (aV [46])) (bx _);refine ao ?_;refine bC (ao (az 6)) ?_;refine aM ?_;refine aW bJ (ao aF) (ao (az 7));refine aP ?_ ?_;refine bu (i:=9) fG.nd rfl (.inl rfl) ?_;refine bL c (a.mono (by decide)) ?_;refine aK ?_ aJ;refine aM ?_;refine mY j (a.mono (by decide)) ?_;refine aK (ao (az 1)) ?_;refine aK ?_ ?_;refine ao ?_;refine bC (ao (az 6)) ?_;refine aM ?_;refine aW bJ (ao aF) (ao (az 7))
 refine aK (ao (az 8)) ?_;refine aK (ao (az 7)) aJ;refine aY ?_;refine cC ?_ ?_ cP;refine fC ?_;refine jx ?_ ?_;refine bB iH (ao (az 9)) (ao aF) (bx _);refine jT ?_;refine bB o8 (ao (az 9)) (ao (az 3)) (bx _);refine aY (cB lB);refine aP ?_ ?_;refine bu (i:=10) fG.nd rfl (.inl rfl) ?_;refine bL c (a.mono (by decide)) ?_;refine aK ?_ aJ;refine aM ?_;refine aW bJ ?_ ?_;refine aM ?_;refine aW bJ ?_ ?_;refine aM ?_;refine eO (ao (az 1)) lG (dg (az 4));refine aM ?_;refine cV 1 ?_;refine aQ ?_ aJ;refine dz 3 ?_;refine aQ (aV [32]) ?_;refine aQ (aV [46]) ?_
 refine aQ ?_ aJ;refine bC (ao (az 6)) (ao aF);refine aM ?_;refine eO (ao (az 1)) ?_ lG;refine dg ?_;refine bD ?_;refine aW bJ (ao (az 4)) (ao aF);refine aP ?_ ?_;refine cC ?_ ?_ cP;refine fC ?_;refine jx ?_ ?_;refine bB iH (ao (az 10)) (ao aF) (bx _);refine jT ?_;refine bB o8 (ao (az 10)) (ao (az 3)) (bx _);refine aY (cB lB);refine aP ?_ ?_;refine bu (i:=11) fG.nd rfl (.inl rfl) ?_;refine dz 3 ?_;refine aQ (aV [107]) ?_;refine aQ ?_ ?_;refine bC (ao (aV [97,98,99,100,101,102,103,104,46])) ?_;refine aM ?_;refine aW c7 ?_ (ao aF);refine ao ?_
 refine bL d (a.mono (by decide)) ?_;refine aK (ao (az 2)) ?_;refine aK (ao aF) aJ;refine aQ ?_ aJ;refine bC (ao (aV [97,98,99,100,101,102,103,104,46])) ?_;refine aM ?_;refine aW c7 ?_ (ao aF);refine ao ?_;refine bL d (a.mono (by decide)) ?_;refine aK (ao (az 2)) ?_;refine aK (ao aF) aJ;refine aP ?_ ?_;refine bu (i:=12) fG.nd rfl (.inl rfl) ?_;refine bL c (a.mono (by decide)) ?_;refine aK ?_ aJ;refine aM ?_;refine aW bJ ?_ ?_;refine aM ?_;refine aW bJ ?_ ?_;refine aM ?_;refine eO (ao (az 1)) lG (dg (az 4));refine aM ?_;refine cV 1 ?_;refine aQ (az 11) aJ
 refine aM ?_;refine eO (ao (az 1)) (dg (az 4)) lG;refine aP ?_ ?_;refine cC ?_ ?_ cP;refine fC ?_;refine jx ?_ ?_;refine bB iH (ao (az 12)) (ao (az 3)) (bx _);refine jT ?_;refine bB o8 (ao (az 12)) ?_ (bx _);refine aM ?_;refine aW bJ (ao (az 3)) (ao aF);refine aY (cB lB);refine aP ?_ ?_;refine Fi (i:=13) (aX ig) ["_law_script","_law_shown_here","_law_head","_law_cost_here","_law_at","_law_less","_law_one","_law_which","_law_other","_law_turned","_law_emptied","_law_new","_law_more","_law_bare"] ["_law_sign","_law_ink","_law_ground"] [] fG.nd rfl (.inl rfl) rfl ?_ (λ_ _ _ _ P=>?_) (λ_ _ _ _ P=>?_) (λ_ _ _ _ P=>?_)
 refine lM (ao (az 1));refine rn 3 rfl ?_;refine gf (cU (i:=0) (show(bM ["_law_script","_law_shown_here","_law_head","_law_cost_here","_law_at","_law_less","_law_one","_law_which","_law_other","_law_turned","_law_emptied","_law_new","_law_more","_law_bare"] ["_law_sign","_law_ink","_law_ground"] []).Nodup by decide +kernel) rfl (.inl rfl)) ?_;refine gf (cU (i:=1) (show(bM ["_law_script","_law_shown_here","_law_head","_law_cost_here","_law_at","_law_less","_law_one","_law_which","_law_other","_law_turned","_law_emptied","_law_new","_law_more","_law_bare"] ["_law_sign","_law_ink","_law_ground"] []).Nodup by decide +kernel) rfl (.inl rfl)) ?_
 refine gf (cU (i:=2) (show(bM ["_law_script","_law_shown_here","_law_head","_law_cost_here","_law_at","_law_less","_law_one","_law_which","_law_other","_law_turned","_law_emptied","_law_new","_law_more","_law_bare"] ["_law_sign","_law_ink","_law_ground"] []).Nodup by decide +kernel) rfl (.inl rfl)) rm;exact oX;refine dz 3 ?_;refine aQ (az 0) ?_;refine aQ (aV [46]) ?_;refine aQ (aV [46]) aJ;refine aY ?_;refine cB ?_;refine bD ?_;refine lC (bT a) ?_ (ao aF) (bx _);refine ao ?_;refine bL c (a.mono (by decide)) ?_;refine aK (ao (az 13)) aJ
end
theorem bf{g:D->D->Option D}{a b:L2.M D}{ρ:aA}{O:aq}{x y z:D}(d:a ρ O=.ok x O)(c:b ρ O=.ok y O)(h:g (bG O x) (bG O y)=some z):aj g a b ρ O=.ok z O:=by
 rw[Hl,d,aR,c,aR,h,j5]
theorem ma1{a:L2.M D}{ρ:aA}{O:aq}{x:D}(h:a ρ O=.ok x O):ak a au ρ O=.ok [x] O:=by
 rw[xf,h,aR,Wb,aR]
theorem maS{a:L2.M D}{r:L2.M (List D)}{ρ:aA}{O:aq}{x:D}{xs:List D}(h:a ρ O=.ok x O)(h2:r ρ O=.ok xs O):ak a r ρ O=.ok (x::xs) O:=by
 rw[xf,h,aR,h2,aR]
theorem jK{m:L2.M (List D)}{ρ:aA}{O:aq}{xs:List D}(h:m ρ O=.ok xs O)(a:xs.length<=1000000):bH m ρ O=.ok (.tup xs) O:=by
 rw[Wd,h,aR,if_pos a]
theorem Bd{m:L2.M (List D)}{ρ:aA}{O:aq}{xs:List D}(h:m ρ O=.ok xs O)(a:xs.length<=1000000):bA m ρ O=.ok (.lst xs) O:=by
 rw[Wc,h,aR,if_pos a]
theorem km{g:List D->Option D}{m:L2.M (List D)}{ρ:aA}{O:aq}{xs:List D}{z:D}(h:m ρ O=.ok xs O)(a:g (xs.map (bG O))=some z):bK g m ρ O=.ok z O:=by
 rw[Hs,h,aR,a,j5]
theorem qj{i:Nat}{m:L2.M D}{ρ:aA}{O:aq}{d:D}{ds:List D}(a:m ρ O=.ok d O)(h:ρ[i]?=some (some (.lst ds)))(c:ds.length<1000000):cT i m ρ O=.nx (ρ.set i (some (.lst (ds++[d])))) O:=by
 rw[WR,a,WT h c]
theorem bU{i:Nat}{m:L2.M D}{ρ:aA}{O:aq}{d:D}(h:m ρ O=.ok d O):aH i m ρ O=.nx (ρ.set i (some d)) O:=by
 rw[Hv,h,Hw]
theorem cg{c:List D->aq->Res D}{a:L2.M (List D)}{ρ:aA}{O:aq}{ds:List D}(h:a ρ O=.ok ds O):aG c a ρ O=c ds O:=by
 rw[Hr,h,aR]
theorem dB{m:L2.M D}{ρ:aA}{O:aq}{b:Bool}(h:m ρ O=.ok (.bl b) O):aB m ρ O=.ok b O:=by
 rw[Hn,h,aR,Hm]
theorem ir{t:L2.M Bool}{a b:MS}{ρ:aA}{O:aq}(h:t ρ O=.ok true O):bc t a b ρ O=a ρ O:=by
 rw[sJ,h,sO,if_pos rfl]
theorem if_no{t:L2.M Bool}{a b:MS}{ρ:aA}{O:aq}(h:t ρ O=.ok false O):bc t a b ρ O=b ρ O:=by
 rw[sJ,h,sO,if_neg zh]
theorem qm{m:L2.M D}{ρ:aA}{O:aq}{l:List D}(h:m ρ O=.ok (.lst l) O):bK cR (ak m au) ρ O=.ok (.int (l.length:Int)) O:=km (ma1 h) rfl
theorem X3{m:L2.M D}{ρ:aA}{O:aq}{n:Nat}(h:m ρ O=.ok (.int (n:Int)) O)(a:n<=1000000):jA (ak m au) ρ O=.ok (fP 0 n) O:=by
 rw[Wi,ma1 h,aR];show(if(n:Int)<=1000000000/\-1000000000<=(n:Int) then Res.ok (fP 0 (n:Int).toNat) O else .no)=_;rw[if_pos ⟨by omega,by omega⟩,Int.toNat_natCast]
theorem dR{a b:L2.M D}{ρ:aA}{O:aq}{i j:Int}(f:a ρ O=.ok (.int i) O)(d:b ρ O=.ok (.int j) O)(c:0<j):aj bw a b ρ O=.ok (.int (i % j)) O:=bf f d (by rw[jD,jD,Wo,if_pos c])
theorem iT{a b:L2.M D}{ρ:aA}{O:aq}{i j:Int}(d:a ρ O=.ok (.int i) O)(c:b ρ O=.ok (.int j) O):aj aD a b ρ O=.ok (.int (i+j)) O:=bf d c rfl
theorem X4{a b:L2.M D}{ρ:aA}{O:aq}{i j:Int}(d:a ρ O=.ok (.int i) O)(c:b ρ O=.ok (.int j) O):aj oY a b ρ O=.ok (.int (i - j)) O:=bf d c rfl
theorem Be{a b:L2.M D}{ρ:aA}{O:aq}{i j:Int}(d:a ρ O=.ok (.int i) O)(c:b ρ O=.ok (.int j) O):aB (aj gLt a b) ρ O=.ok (decide (i<j)) O:=dB (bf d c rfl)
theorem kE{a b:L2.M D}{ρ:aA}{O:aq}{i j:Int}(d:a ρ O=.ok (.int i) O)(c:b ρ O=.ok (.int j) O):aB (aj gEq a b) ρ O=.ok (decide (i=j)) O:=dB (bf d c rfl)
theorem X5{a:L2.M D}{r:L2.M (List D)}{ρ:aA}{O d c:aq}{x:D}{xs:List D}(h:a ρ O=.ok x d)(h2:r ρ d=.ok xs c):ak a r ρ O=.ok (x::xs) c:=by
 rw[xf,h,aR,h2,aR]
theorem Bf{a:L2.M D}{ρ:aA}{O c:aq}{x:D}(h:a ρ O=.ok x c):ak a au ρ O=.ok [x] c:=X5 h rfl
theorem nY{a b:L2.M Bool}{ρ:aA}{O d c:aq}(g:a ρ O=.ok false d)(f:b ρ d=.ok false c):cO a b ρ O=.ok false c:=by
 rw[j7,g,aR,if_neg zh,f]
theorem ifN{t:L2.M Bool}{a:MS}{ρ:aA}{O c:aq}(h:t ρ O=.ok false c):bc t a bz ρ O=.nx ρ c:=by
 rw[sJ,h,sO];rfl
theorem ifY{t:L2.M Bool}{a b:MS}{ρ:aA}{O c:aq}(h:t ρ O=.ok true c):bc t a b ρ O=a ρ c:=by
 rw[sJ,h,sO];rfl
theorem Bg{c:List D->aq->Res D}{a:L2.M (List D)}{ρ:aA}{O d:aq}{ds:List D}(h:a ρ O=.ok ds d):aG c a ρ O=c ds d:=by
 rw[Hr,h,aR]
theorem Bh{g:D->D->Option D}{a b:L2.M D}{ρ:aA}{O d c:aq}{x y z:D}(j:a ρ O=.ok x d)(f:b ρ d=.ok y c)(h:g (bG c x) (bG c y)=some z):aj g a b ρ O=.ok z c:=by
 rw[Hl,j,aR,f,aR,h,j5]
theorem qp{a b:L2.M Bool}{ρ:aA}{O c:aq}(f:a ρ O=.ok true c)(d:b ρ c=.ok false c):b7 a b ρ O=.ok false c:=by
 rw[eV,f,aR,if_pos rfl,d]
theorem uF{a b:L2.M Bool}{ρ:aA}{O d c:aq}{x:Bool}(g:a ρ O=.ok true d)(f:b ρ d=.ok x c):b7 a b ρ O=.ok x c:=by
 rw[eV,g,aR,if_pos rfl,f]
theorem Ji{g:MG}{b:MS}{d:D}{ds:List D}{ρ ρ1 a:aA}{O c:aq}(f:g d ρ=some ρ1)(j:b ρ1 O=.nx a c):b8 g b (d::ds) ρ O=b8 g b ds a c:=by
 conv=>lhs;unfold b8
 rw[f];dsimp only;rw[j]
def st(c:Nat):D:=.str [c]
def kz(ks:List Nat):List (List Nat):=ks.map λc=>[c]
theorem Bj{ks:List Nat}{c:Nat}:[c]∈kz ks↔c∈ks:=by simp[kz]
theorem Jj:∀ks:List Nat,strsT (ks.map st)=some (kz ks)
 | []=>rfl
 |c::ks=>by
  show(strsT (ks.map st)).map ([c] :: ·)=_;rw[Jj ks];rfl
def iU(ks:List Nat):List Nat:=(jC (kz ks)).map λl=>l.headD 0
theorem Jk{ks:List Nat}{l:List Nat}(h:l∈kz ks):∃c,l=[c]/\c∈ks:=by
 obtain⟨c,a,rfl⟩:=zy.mp h;exact⟨c,rfl,a⟩
theorem Bk(ks:List Nat):jC (kz ks)=kz (iU ks):=by
 unfold iU kz;rw[zL]
 conv=>lhs;rw[<-List.map_id (jC _)]
 refine jo λl a=>?_
 obtain⟨c,rfl,_⟩:=Jk ((sr l _).mp a);rfl
theorem uG(ks:List Nat)(c:Nat):c∈iU ks↔c∈ks:=by
 rw[<-Bj,<-Bk,sr,Bj]
theorem Jl(ks:List Nat):(iU ks).Nodup:=by
 have h:=wH (kz ks);rw[Bk] at h;unfold kz at h;rw[List.pairwise_map] at h
 exact h.imp λ{a b} hab e=>by
  subst e;exact List.lt_irrefl _ hab
theorem sub_len{α:Type}[DecidableEq α]:∀(l m:List α),l.Nodup->(∀x∈l,x∈m)->l.length<=m.length
 | [],_,_,_=>Nat.zero_le _
 |x::l,m,h,hs=>by
  obtain⟨h1,h2⟩:=List.nodup_cons.mp h;have c:=hs x zg
  have:=sub_len l (m.erase x) h2 λy a=>(List.mem_erase_of_ne (λe=>h1 (by rw[<-e];exact a))).mpr (hs y (zq _ a))
  rw[List.length_erase_of_mem c] at this;have d:=List.length_pos_of_mem c;rw[zv];omega
theorem X6{ks M:List Nat}(h:∀c∈ks,c∈M):(iU ks).length<=M.length:=sub_len _ _ (Jl ks) λc a=>h c ((uG ks c).mp a)
theorem X7{ks M:List Nat}(h:∀c∈ks,c∈M):((kz ks).foldl stepT []).length<=M.length:=by
 have:=sub_len _ (kz M) (wI (kz ks) [] .nil) λl a=>by
  rcases(sy l (kz ks) []).mp a with z | z
  ·cases z
  ·obtain⟨c,rfl,d⟩:=Jk z;exact Bj.mpr (h c d)
 unfold kz at this ⊢
 rwa [zf] at this
theorem X8{ks M:List Nat}(h0:ks≠[])(a:ks.length<4000)(h:∀c∈ks,c∈M)(d:M.length<64):pL [.lst (ks.map st)]=some (.lst ((iU ks).map st)):=by
 show sE (.lst (ks.map st))=_;unfold sE;dsimp only;rw[Jj];dsimp only
 have hl':(kz ks).length<4000:=by unfold kz;rw[zf];exact a
 have h0':kz ks≠[]:=λe=>h0 (by unfold kz at e;exact List.map_eq_nil_iff.mp e)
 rw[if_pos ⟨hl',h0',Nat.lt_of_le_of_lt (X7 h) d⟩,Bk];unfold kz;rw[zL];rfl
theorem Jm{cs:List Str}{f c:Str}{j g:L2.M D}{ρ:aA}{O a:aq}{n:Nat}{d:D}{fs:List (Str×D)}(hv:g ρ O=.ok d a)(l:j ρ a=.ok (.ob n) a)(r:a[n]?=some (.ins c fs))(q:c∈cs)(m:fs.length<900):
  lJ cs f j g ρ O=.nx ρ (a.set n (.ins c (putD f d fs))):=by
 rw[WK,hv,WL,l];unfold puF;dsimp only;rw[r];dsimp only;rw[if_pos ⟨q,m⟩]
theorem uH{cs:List Str}{f c:Str}{m:L2.M D}{ρ:aA}{O:aq}{n:Nat}{y:D}{fs:List (Str×D)}(d:m ρ O=.ok (.ob n) O)(j:O[n]?=some (.ins c fs))(g:c∈cs)(a:fs.lookup f=some y):
  eQ cs f m ρ O=.ok y O:=by
 rw[WD,d,aR];unfold HR;dsimp only;rw[j];dsimp only;rw[if_pos g,a]
theorem iu{c m:Str}{f:List D->aq->Res D}{a:L2.M D}{d:L2.M (List D)}{ρ:aA}{O:aq}{n:Nat}{ds:List D}{fs:List (Str×D)}(g:a ρ O=.ok (.ob n) O)(q:O[n]?=some (.ins c fs))(j:(fs.lookup m).isNone=true)(l:d ρ O=.ok ds O):
  bO c m f a d ρ O=f (.ob n::ds) O:=by
 rw[WM,g,aR];unfold meF;dsimp only;rw[q];dsimp only;rw[if_pos ⟨rfl,j⟩,l,aR]
theorem Bl{O:aq}{o:Ob}:(O++[o])[O.length]?=some o:=by
 rw[zH (zc _),Nat.sub_self];rfl
theorem Jo{O:aq}{o a:Ob}:(O++[o]).set O.length a=O++[a]:=by
 rw[List.set_append_right _ _ (zc _),Nat.sub_self];rfl
theorem iw{m:L2.M D}{ρ:aA}{O:aq}{l:List D}(h:m ρ O=.ok (.lst l) O):cJ m ρ O=.ok l O:=by
 rw[Wk,h,aR,Wl,Wj]
theorem kI{m:L2.M (List D)}{own:Nat}{cap:List Nat}{g:MG}{t:L2.M Bool}{e:L2.M D}{ρ a:aA}{O c:aq}{ds ys:List D}(h:m ρ O=.ok ds O)(d:ds.length<=1000000)(h0:jW own cap ρ=a)(f:cX g t e ds a O []=.ok ys c):dJ m own cap g t e ρ O=.ok (.lst ys) c:=by
 rw[Wm,h,aR,if_pos d,h0,f,aR]
theorem Jp{m:L2.M D}{ρ:aA}{O:aq}{d:D}{l:List D}(h:m ρ O=.ok d O)(hd:bG O d=.lst l):bK lH (ak m au) ρ O=.ok (.lst l) O:=by
 rw[Hs,ma1 h,aR,zd,zQ,hd,WY,j5]
theorem Yb{m:L2.M D}{ρ:aA}{O a:aq}{d:D}(h:m ρ O=.ok d a):aZ m ρ O=.rt d a:=by rw[dW,h];rfl
theorem fY{a b:L2.M D}{ρ:aA}{O:aq}{c k:Int}(f:a ρ O=.ok (.int c) O)(d:b ρ O=.ok (.int k) O)(h0:0<=k)(h1:k<=1000000):aG bZ (ak a (ak b au)) ρ O=.ok (.int (mix c k)) O:=by
 rw[cg (maS f (ma1 d))];exact Wz c k h0 h1 O
theorem fH{a b:MS}{ρ c:aA}{O d:aq}(h:a ρ O=.nx c d):aC a b ρ O=b c d:=by rw[gk,h,nu]
theorem Bm{t:L2.M Bool}{a:MS}{ρ:aA}{O:aq}(h:t ρ O=.ok false O):bc t a bz ρ O=.nx ρ O:=by rw[if_no h];rfl
theorem Bo{t:L2.M Bool}{a b:MS}{ρ c:aA}{O d:aq}(h:t ρ O=.ok true O)(f:a ρ O=.nx c d):bc t a b ρ O=.nx c d:=by rw[ir h];exact f
abbrev L3:=Nat×Nat×Nat
def dL(x:L3):D:=.tup [st x.1,st x.2.1,st x.2.2]
def pr(p:Nat×Nat):D:=.tup [st p.1,st p.2]
def sgn(c:Nat):List Nat:=if c=91 then[91,91] else[c]
theorem Yc(c:Nat)(O:aq):iM [.str bN,st c] O=.ok (.str (sgn c)) O:=by
 unfold sgn
 by_cases h:c=91
 ·subst h;rfl
 ·have e:gEq (.str [c]) (.str [91])=some (.bl false):=by rw[Ws,ze (λz=>h (by injection z))]
  rw[if_neg h];show bh (sV [some (.str bN),some (.str [c])] O)=_;unfold sV;rw[gk,ir rfl,dW,nj,dB (bf (x:=.str [c]) (y:=.str [91]) rfl rfl e),aR,if_neg zh];rfl
theorem Yd(c:Nat)(O:aq):iM [.str dO,st c] O=.ok (.str [91,c,93]) O:=rfl
theorem Ye(c:Nat)(O:aq):iM [.str dX,st c] O=.ok (.str [91,47,c,93]) O:=rfl
theorem Yg(O:aq):iM [.str fV,.str []] O=.ok (.str [91,93]) O:=rfl
theorem nZ(a b:Nat):gEq (st a) (st b)=some (.bl (decide (a=b))):=by
 show some (D.bl (decide ([a]=[b])))=_;rw[show decide ([a]=[b])=decide (a=b) from decide_eq_decide.mpr ⟨λh=>by injection h,λh=>by rw[h]⟩]
theorem add_l{a b:L2.M D}{ρ:aA}{O:aq}{l m:List D}(d:a ρ O=.ok (.lst l) O)(c:b ρ O=.ok (.lst m) O)(h:l.length+m.length<=1000000):aj aD a b ρ O=.ok (.lst (l++m)) O:=bf d c (by
 show(if l.length+m.length<=1000000 then some (D.lst (l++m)) else none)=_
 rw[if_pos h])
theorem Yh{x:L3}{i:Nat}{c:Nat}(h:(i=1/\c=x.2.1)\/(i=2/\c=x.2.2)):gIx (dL x) (.int (i:Int))=some (st c):=by
 rcases h with⟨rfl,rfl⟩ | ⟨rfl,rfl⟩<;>rfl
theorem Yi(l:List L3)(i:Nat)(f:L3->Nat)(q:∀x,(i=1/\f x=x.2.1)\/(i=2/\f x=x.2.2)){M:List Nat}(u:l.length<=1000)(r:M.length<64)(j:46∈M)(h:∀x∈l,f x∈M)(O:aq):
  nQ [.lst (l.map dL),.int (i:Int)] O=.ok (.lst ((iU (46::l.map f)).map st)) O:=by
 show bh (t7 [some (.lst (l.map dL)),some (.int (i:Int))] O)=_;unfold t7
 have c:=nA (g:=mgN 0) (t:=fM) (m:=aj gIx (aa 0) (aa 1)) (λρ=>∃a,ρ=[a,some (.int (i:Int))]) dL (λx=>st (f x)) l [none,some (.int (i:Int))] O [] ⟨_,rfl⟩ (by
  rintro x n ρ ⟨a,rfl⟩
  exact⟨_,rfl,⟨_,rfl⟩,rfl,bf (x:=dL x) (y:=.int (i:Int)) rfl rfl (Yh (q x))⟩)
 rw[zK] at c;have e:=kI (m:=cJ (aa 0)) (ρ:=[some (.lst (l.map dL)),some (.int (i:Int))]) (own:=1) (cap:=[1]) (iw (l:=l.map dL) rfl) (by rw[zf];omega) rfl c;rw[dW,km (ma1 (add_l (l:=[st 46]) rfl e (by rw[zf];show 1+_<=_;omega))) (z:=.lst ((iU (46::l.map f)).map st)) ?_]
 ·rfl
 ·show pL [.lst ([st 46]++l.map λx=>st (f x))]=_
  have:=X8 (ks:=46::l.map f) (M:=M) (by simp) (by rw[zv,zf];omega) (λc d=>by
   rcases zp.mp d with rfl | d
   ·exact j
   ·obtain⟨x,n,rfl⟩:=zy.mp d
    exact h x n) r
  rw[zd,zL] at this;exact this
theorem Jq{α:Type}(l:List α)(a b:Nat):dj l (some (a:Int)) (some (b:Int))=(l.drop a).take (b - a):=by
 unfold dj;rw[HT.sIx_nat,HT.sIx_nat]
 by_cases h:a<=l.length
 ·rw[Nat.min_eq_left h]
  by_cases c:b<=l.length
  ·rw[Nat.min_eq_left c]
  ·rw[Nat.min_eq_right (by omega),List.take_of_length_le (by rw[List.length_drop];omega),List.take_of_length_le (by rw[List.length_drop];omega)]
 ·rw[Nat.min_eq_right (show l.length<=a by omega),List.drop_eq_nil_of_le (show l.length<=l.length by omega),List.drop_eq_nil_of_le (show l.length<=a by omega)];simp
theorem Yj{α:Type}(l:List α)(b:Nat):dj l none (some (b:Int))=l.take b:=by
 unfold dj;rw[HT.sIx_nat,HT.sIx_none,List.drop_zero,Nat.sub_zero]
 by_cases a:b<=l.length
 ·rw[Nat.min_eq_left a]
 ·rw[Nat.min_eq_right (by omega),List.take_of_length_le (by omega),List.take_of_length_le (by omega)]
theorem Yk{α:Type}(l:List α)(a:Nat):dj l (some (a:Int)) none=l.drop a:=by
 unfold dj;rw[HT.sIx_nat,HT.sIx_none]
 by_cases h:a<=l.length
 ·rw[Nat.min_eq_left h,List.take_of_length_le (by rw[List.length_drop];omega)]
 ·rw[Nat.min_eq_right (by omega),List.drop_eq_nil_of_le (by omega),List.drop_eq_nil_of_le (by omega)];simp
@[simp] theorem QzR{a:Nat}:dj [a] none (some 2)=[a]:=rfl
def Ok1(c:Nat):Prop:=col c=true
def OkL(x:L3):Prop:=(32<=x.1/\x.1<=125)/\(x.1=32->x.2.1=46)
theorem Jr(ns:List Int)(k:Nat)(O:aq):kj [.lst (ns.map D.int),.int k] O=.ok (.int (ns.getD k 0)) O:=by
 by_cases h:k<ns.length
 ·simp[kj,uf,pX,h]
 ·simp[kj,uf,h]
theorem kZ{L:List Nat}{r:Int}(d:L.length<=1000000)(h0:0<=r)(h1:r<L.length):∃s,gIx (.str L) (.int r)=some (st s)/\s∈L:=by
 obtain⟨x,a,c⟩:=HD (xs:=L) h0 h1;refine⟨x,?_,c⟩;rw[HB,if_pos d,a];rfl
theorem Js{I:List Nat}{r:Int}(h0:0<=r)(h1:r<I.length):∃c,gIx (.lst (I.map st)) (.int r)=some (st c)/\c∈I:=by
 obtain⟨x,a,d⟩:=HD (xs:=I.map st) h0 (by rw[zf];exact h1);obtain⟨c,f,rfl⟩:=zy.mp d;exact⟨c,a,f⟩
theorem Bp{a b:L2.M D}{ρ:aA}{O:aq}{i j:Int}(g:a ρ O=.ok (.int i) O)(f:b ρ O=.ok (.int j) O)(d:0<j)(c:j<1073741824):aj fD a b ρ O=.ok (.int (i / j)) O:=bf g f (by rw[jD,jD,Wq,if_pos ⟨d,c⟩])
theorem Jt(c:Int)(m:Nat)(P:m<=100)(O:aq):∃cols:List Nat,cols.length=m/\(∀x∈cols,Ok1 x)/\nR [.int c,.int (m:Int)] O=.ok (.lst ((46::cols).map st)) O:=by
 have J:=zN (c / 8) (show(4:Int)≠0 by decide);have I:=zO (c / 8) (show(0:Int)<4 by decide)
 obtain⟨s,C,H,G⟩:∃s:Int,gIx (.lst [.int 1,.int 3,.int 5,.int 7]) (.int (c / 8 % 4))=some (.int s)/\0<=s/\s<=7:=by
  have h:c / 8 % 4=0\/c / 8 % 4=1\/c / 8 % 4=2\/c / 8 % 4=3:=by omega
  rcases h with h | h | h | h<;>rw[h]
  ·exact⟨1,rfl,by decide,by decide⟩
  ·exact⟨3,rfl,by decide,by decide⟩
  ·exact⟨5,rfl,by decide,by decide⟩
  ·exact⟨7,rfl,by decide,by decide⟩
 have u:∀k:Nat,∃x,gIx (.str [97,98,99,100,101,102,103,104]) (.int ((c+(k:Int) * s) % 8))=some (st x)/\Ok1 x:=λk=>by
  obtain⟨x,e,q⟩:=kZ (L:=[97,98,99,100,101,102,103,104]) (r:=(c+(k:Int) * s) % 8) (by decide) (zN _ (by decide)) (zO _ (by decide))
  have:∀y∈[97,98,99,100,101,102,103,104],Ok1 y:=by unfold Ok1;decide
  exact⟨x,e,this x q⟩
 have d:∃f:Nat->Nat,∀k:Nat,gIx (.str [97,98,99,100,101,102,103,104]) (.int ((c+(k:Int) * s) % 8))=some (st (f k))/\Ok1 (f k):=⟨λk=>(u k).choose,λk=>(u k).choose_spec⟩;obtain⟨f,d⟩:=d;refine⟨(List.range m).map f,by rw[zf,List.length_range],λx q=>?_,?_⟩
 ·obtain⟨k,_,rfl⟩:=zy.mp q;exact(d k).2
 ·show bh (uh [some (.int c),some (.int (m:Int)),none] O)=_;unfold uh;have B:=bU (i:=2) (bf (g:=gIx) (a:=bA (ak (mC (.int 1)) (ak (mC (.int 3)) (ak (mC (.int 5)) (ak (mC (.int 7)) au))))) (x:=.lst [.int 1,.int 3,.int 5,.int 7]) (ρ:=[some (.int c),some (.int (m:Int)),none]) (O:=O) rfl (dR (j:=4) (Bp (a:=aa 0) (i:=c) (b:=mC (.int 8)) (j:=8) rfl rfl (by decide) (by decide)) (b:=mC (.int 4)) rfl (by decide)) C);rw[fH B]
  have rd:fP 0 m=(List.range m).map λi:Nat=>D.int ((i:Nat):Int):=by unfold fP;simp
  have cl:=nA (g:=mgN 0) (t:=fM) (m:=aj gIx (mC (.str [97,98,99,100,101,102,103,104])) (aj bw (aj aD (aa 1) (aj d7 (aa 0) (aa 2))) (mC (.int 8)))) (λρ=>∃a,ρ=[a,some (.int c),some (.int s)]) (λi:Nat=>D.int ((i:Nat):Int)) (λi=>st (f i)) (List.range m) [none,some (.int c),some (.int s)] O [] ⟨_,rfl⟩ (by
   rintro k E ρ ⟨a,rfl⟩;have hk':=List.mem_range.mp E;refine⟨[some (.int (k:Int)),some (.int c),some (.int s)],rfl,⟨_,rfl⟩,rfl,?_⟩
   exact bf (x:=.str [97,98,99,100,101,102,103,104]) rfl (dR (j:=8) (iT (i:=c) (a:=aa 1) rfl (bf (a:=aa 0) (b:=aa 2) (x:=.int (k:Int)) (y:=.int s) rfl rfl (xq (.inl ⟨by omega,by omega⟩)))) (b:=mC (.int 8)) rfl (by decide)) (d k).1)
  rw[zK,<-rd] at cl;have F:=kI (m:=jA (ak (aa 1) au)) (own:=1) (cap:=[0,2]) (ρ:=[some (.int c),some (.int (m:Int)),some (.int s)]) (X3 (n:=m) rfl (by omega)) (by rw[xx];omega) rfl cl;refine(congrArg bh (Yb (add_l (a:=bA (ak (mC (.str [46])) au)) (l:=[st 46]) rfl F (by rw[zf,List.length_range];show 1+_<=_;omega)))).trans ?_;show Res.ok (D.lst ([st 46]++(List.range m).map λi=>st (f i))) O=_;rw[zd,zL];rfl
theorem Yl(d:D)(w:Nat)(a:w<=1000):d7 (.lst [d]) (.int (w:Int))=some (.lst (List.replicate w d)):=by
 show(if -1000000<(w:Int)/\(w:Int)<1000000/\[d].length * (w:Int).toNat<=1000000 then some (D.lst (List.replicate (w:Int).toNat [d]).flatten) else none)=_;rw[if_pos ⟨by omega,by omega,by simp;omega⟩];simp
def eK(X:D)(h:Int)(I G:List Nat)(l:List L3)(i g:Nat)(f d c a:Option D):aA:=[some X,some (.int h),some (.lst (I.map st)),some (.lst (G.map st)),some (.lst (l.map dL)),some (st i),some (st g),f,d,c,a]
def K1:MS:=bc (aB (aj gEq (aj bw (aG bZ (ak (aa 7) (ak (mC (.int 3)) au))) (mC (.int 3))) (mC (.int 0)))) (aH 5 (aj gIx (aa 2) (aj bw (aG bZ (ak (aa 7) (ak (mC (.int 4)) au))) (bK cR (ak (aa 2) au))))) bz
def K2:MS:=bc (aB (aj gEq (aj bw (aG bZ (ak (aa 7) (ak (mC (.int 5)) au))) (mC (.int 4))) (mC (.int 0)))) (aH 6 (aj gIx (aa 3) (aj bw (aG bZ (ak (aa 7) (ak (mC (.int 6)) au))) (bK cR (ak (aa 3) au))))) bz
def K3:MS:=aH 8 (aG bZ (ak (aa 7) (ak (mC (.int 7)) au)))
def K4:MS:=aH 9 (aj gIx (mC (.str [32,97,120,91,65,93,47,46,98,90,32,91,123,125,104])) (aj bw (aj fD (aa 8) (mC (.int 3))) (mC (.int 15))))
def K5:MS:=bc (aB (aj gEq (aj bw (aa 8) (mC (.int 3))) (mC (.int 2)))) (aH 9 (aj gIx (aG um au) (aj bw (aj fD (aa 8) (mC (.int 3))) (mC (.int 93))))) bz
def K6:MS:=aH 10 (bH (ak (aa 9) (ak (aj gIx (bA (ak (aa 5) (ak (mC (.str [46])) au))) (bK iI (ak (aj gEq (aa 9) (mC (.str [32]))) au))) (ak (aa 6) au))))
def K7:MS:=aH 4 (aj aD (aa 4) (aj d7 (bA (ak (aa 10) au)) (aj aD (mC (.int 1)) (aj bw (aG bZ (ak (aa 7) (ak (mC (.int 8)) au))) (aj gIx (bA (ak (mC (.int 1)) (ak (mC (.int 1)) (ak (mC (.int 10)) (ak (mC (.int 1)) au))))) (aj bw (aa 1) (mC (.int 4))))))))
def uI:MS:=aC K1 (aC K2 (aC K3 (aC K4 (aC K5 (aC K6 K7)))))
def sgs:List Nat:=[32,33,34,35,36,38,39,40,41,42,43,44,45,46,47,48,49,50,51,52,53,54,55,56,57,58,59,60,61,62,63,64,65,66,67,68,69,70,71,72,73,74,75,76,77,78,79,80,81,82,83,84,85,86,87,88,89,90,91,92,93,94,95,96,97,98,99,100,101,102,103,104,105,106,107,108,109,110,111,112,113,114,115,116,117,118,119,120,121,122,123,124,125]
theorem Ym(O:aq):um [] O=.ok (.str sgs) O:=rfl
theorem Yn:∀c∈sgs,32<=c/\c<=125:=by decide
theorem Yo{X:D}{h:Int}{I G:List Nat}{M:Nat}(hI:I≠[])(hG:G≠[])(hM:gIx (.lst [.int 1,.int 1,.int 10,.int 1]) (.int (h % 4))=some (.int (M:Int)))(hM0:0<M)(hM1:M<=10)(l:List L3)(hl:l.length<=1000)(i g:Nat)(hi:i∈I)(hg:g∈G)(T:46∈I)(c:Int)(u q d:Option D)(O:aq):
  ∃f g' x m W U P,f∈I/\g'∈G/\OkL x/\x.2.1∈I/\x.2.2∈G/\m<=M/\uI (eK X h I G l i g (some (.int c)) u q d) O=.nx (eK X h I G (l++List.replicate m x) f g' (some (.int c)) W U P) O:=by
 have il:(0:Int)<I.length:=by have:=List.length_pos_iff.mpr hI;omega
 have gl:(0:Int)<G.length:=by have:=List.length_pos_iff.mpr hG;omega
 obtain⟨f,F,e1⟩:∃f,f∈I/\K1 (eK X h I G l i g (some (.int c)) u q d) O=.nx (eK X h I G l f g (some (.int c)) u q d) O:=by
  have t:aB (aj gEq (aj bw (aG bZ (ak (aa 7) (ak (mC (.int 3)) au))) (mC (.int 3))) (mC (.int 0))) (eK X h I G l i g (some (.int c)) u q d) O=.ok (decide (mix c 3 % 3=0)) O:=kE (dR (j:=3) (fY (c:=c) (k:=3) rfl rfl (by decide) (by decide)) rfl (by decide)) rfl
  by_cases B:mix c 3 % 3=0
  ·rw[zj B] at t;obtain⟨x,ex,C⟩:=Js (I:=I) (r:=mix c 4 % (I.length:Int)) (zN _ (by omega)) (zO _ il);have ll:=qm (m:=aa 2) (ρ:=eK X h I G l i g (some (.int c)) u q d) (O:=O) (l:=I.map st) rfl;rw[zf] at ll;exact⟨x,C,Bo t (bU (i:=5) (ρ:=eK X h I G l i g (some (.int c)) u q d) (bf (x:=.lst (I.map st)) rfl (dR (fY (c:=c) (k:=4) rfl rfl (by decide) (by decide)) ll il) ex))⟩
  ·rw[ze B] at t;exact⟨i,hi,Bm t⟩
 obtain⟨g',H,e2⟩:∃g',g'∈G/\K2 (eK X h I G l f g (some (.int c)) u q d) O=.nx (eK X h I G l f g' (some (.int c)) u q d) O:=by
  have t:aB (aj gEq (aj bw (aG bZ (ak (aa 7) (ak (mC (.int 5)) au))) (mC (.int 4))) (mC (.int 0))) (eK X h I G l f g (some (.int c)) u q d) O=.ok (decide (mix c 5 % 4=0)) O:=kE (dR (j:=4) (fY (c:=c) (k:=5) rfl rfl (by decide) (by decide)) rfl (by decide)) rfl
  by_cases B:mix c 5 % 4=0
  ·rw[zj B] at t;obtain⟨x,ex,C⟩:=Js (I:=G) (r:=mix c 6 % (G.length:Int)) (zN _ (by omega)) (zO _ gl);have ll:=qm (m:=aa 3) (ρ:=eK X h I G l f g (some (.int c)) u q d) (O:=O) (l:=G.map st) rfl;rw[zf] at ll;exact⟨x,C,Bo t (bU (i:=6) (ρ:=eK X h I G l f g (some (.int c)) u q d) (bf (x:=.lst (G.map st)) rfl (dR (fY (c:=c) (k:=6) rfl rfl (by decide) (by decide)) ll gl) ex))⟩
  ·rw[ze B] at t;exact⟨g,hg,Bm t⟩
 have e3:K3 (eK X h I G l f g' (some (.int c)) u q d) O=.nx (eK X h I G l f g' (some (.int c)) (some (.int (mix c 7))) q d) O:=bU (i:=8) (ρ:=eK X h I G l f g' (some (.int c)) u q d) (fY (c:=c) (k:=7) rfl rfl (by decide) (by decide))
 obtain⟨s,Z,e4⟩:∃s,(32<=s/\s<=125)/\K4 (eK X h I G l f g' (some (.int c)) (some (.int (mix c 7))) q d) O=.nx (eK X h I G l f g' (some (.int c)) (some (.int (mix c 7))) (some (st s)) d) O:=by
  obtain⟨x,ex,C⟩:=kZ (L:=[32,97,120,91,65,93,47,46,98,90,32,91,123,125,104]) (r:=mix c 7 / 3 % 15) (by decide) (zN _ (by decide)) (zO _ (by decide))
  have ok:∀y∈[32,97,120,91,65,93,47,46,98,90,32,91,123,125,104],32<=y/\y<=125:=by decide
  exact⟨x,ok x C,bU (i:=9) (ρ:=eK X h I G l f g' (some (.int c)) (some (.int (mix c 7))) q d) (bf (x:=.str [32,97,120,91,65,93,47,46,98,90,32,91,123,125,104]) rfl (dR (j:=15) (Bp (j:=3) (i:=mix c 7) rfl rfl (by decide) (by decide)) rfl (by decide)) ex)⟩
 obtain⟨n,R,e5⟩:∃n,(32<=n/\n<=125)/\K5 (eK X h I G l f g' (some (.int c)) (some (.int (mix c 7))) (some (st s)) d) O=.nx (eK X h I G l f g' (some (.int c)) (some (.int (mix c 7))) (some (st n)) d) O:=by
  have t:aB (aj gEq (aj bw (aa 8) (mC (.int 3))) (mC (.int 2))) (eK X h I G l f g' (some (.int c)) (some (.int (mix c 7))) (some (st s)) d) O=.ok (decide (mix c 7 % 3=2)) O:=kE (dR (j:=3) (i:=mix c 7) rfl rfl (by decide)) rfl
  by_cases B:mix c 7 % 3=2
  ·rw[zj B] at t;obtain⟨x,ex,C⟩:=kZ (L:=sgs) (r:=mix c 7 / 3 % 93) (by decide) (zN _ (by decide)) (zO _ (by decide));exact⟨x,Yn x C,Bo t (bU (i:=9) (ρ:=eK X h I G l f g' (some (.int c)) (some (.int (mix c 7))) (some (st s)) d) (bf (x:=.str sgs) (by rw[cg (ds:=[]) rfl];exact Ym O) (dR (j:=93) (Bp (j:=3) (i:=mix c 7) rfl rfl (by decide) (by decide)) rfl (by decide)) ex))⟩
  ·rw[ze B] at t;exact⟨s,Z,Bm t⟩
 obtain⟨j,hj,J,e6⟩:∃j,j∈I/\(n=32->j=46)/\K6 (eK X h I G l f g' (some (.int c)) (some (.int (mix c 7))) (some (st n)) d) O=.nx (eK X h I G l f g' (some (.int c)) (some (.int (mix c 7))) (some (st n)) (some (dL (n,j,g')))) O:=by
  have ll:bA (ak (aa 5) (ak (mC (.str [46])) au)) (eK X h I G l f g' (some (.int c)) (some (.int (mix c 7))) (some (st n)) d) O=.ok (.lst [st f,st 46]) O:=rfl;have Q:=bf (a:=aa 9) (b:=mC (.str [32])) (g:=gEq) (x:=st n) (y:=st 32) (ρ:=eK X h I G l f g' (some (.int c)) (some (.int (mix c 7))) (some (st n)) d) (O:=O) rfl rfl (nZ n 32)
  by_cases E:n=32
  ·rw[zj E] at Q;exact⟨46,T,λ_=>rfl,bU (i:=10) (ρ:=eK X h I G l f g' (some (.int c)) (some (.int (mix c 7))) (some (st n)) d) (jK (maS (x:=st n) rfl (maS (x:=st 46) (bf ll (km (ma1 Q) (z:=.int 1) rfl) rfl) (ma1 (x:=st g') rfl))) (show(3:Nat)<=1000000 by decide))⟩
  ·rw[ze E] at Q;exact⟨f,F,λz=>absurd z E,bU (i:=10) (ρ:=eK X h I G l f g' (some (.int c)) (some (.int (mix c 7))) (some (st n)) d) (jK (maS (x:=st n) rfl (maS (x:=st f) (bf ll (km (ma1 Q) (z:=.int 0) rfl) rfl) (ma1 (x:=st g') rfl))) (show(3:Nat)<=1000000 by decide))⟩
 have y0:=zN (mix c 8) (show(M:Int)≠0 by omega);have y1:=zO (mix c 8) (show(0:Int)<(M:Int) by omega);obtain⟨m,hm⟩:∃m:Nat,(m:Int)=1+mix c 8 % (M:Int):=⟨(1+mix c 8 % (M:Int)).toNat,by omega⟩;refine⟨f,g',(n,j,g'),m,some (.int (mix c 7)),some (st n),some (dL (n,j,g')),F,H,⟨R,J⟩,hj,H,by omega,?_⟩;unfold uI;rw[fH e1,fH e2,fH e3,fH e4,fH e5,fH e6]
 have Y:aj aD (mC (.int 1)) (aj bw (aG bZ (ak (aa 7) (ak (mC (.int 8)) au))) (aj gIx (bA (ak (mC (.int 1)) (ak (mC (.int 1)) (ak (mC (.int 10)) (ak (mC (.int 1)) au))))) (aj bw (aa 1) (mC (.int 4))))) (eK X h I G l f g' (some (.int c)) (some (.int (mix c 7))) (some (st n)) (some (dL (n,j,g')))) O=.ok (.int (m:Int)) O:=by
  rw[hm];exact iT (i:=1) rfl (dR (fY (c:=c) (k:=8) rfl rfl (by decide) (by decide)) (bf (x:=.lst [.int 1,.int 1,.int 10,.int 1]) rfl (dR (j:=4) (i:=h) rfl rfl (by decide)) hM) (by omega))
 have ml:aj d7 (bA (ak (aa 10) au)) (aj aD (mC (.int 1)) (aj bw (aG bZ (ak (aa 7) (ak (mC (.int 8)) au))) (aj gIx (bA (ak (mC (.int 1)) (ak (mC (.int 1)) (ak (mC (.int 10)) (ak (mC (.int 1)) au))))) (aj bw (aa 1) (mC (.int 4)))))) (eK X h I G l f g' (some (.int c)) (some (.int (mix c 7))) (some (st n)) (some (dL (n,j,g')))) O=.ok (.lst (List.replicate m (dL (n,j,g')))) O:=bf (x:=.lst [dL (n,j,g')]) rfl Y (Yl _ m (by omega));refine(bU (i:=4) (ρ:=eK X h I G l f g' (some (.int c)) (some (.int (mix c 7))) (some (st n)) (some (dL (n,j,g')))) (add_l (a:=aa 4) (l:=l.map dL) rfl ml (by rw[zf,List.length_replicate];omega))).trans ?_
 rw[<-List.map_replicate,<-zI];rfl
theorem Yp{m a b:L2.M D}{ρ:aA}{O:aq}{l:List D}{x y:Nat}(c:m ρ O=.ok (.lst l) O)(f:a ρ O=.ok (.int (x:Int)) O)(d:b ρ O=.ok (.int (y:Int)) O):mSl m (moS a) (moS b) ρ O=.ok (.lst ((l.drop x).take (y - x))) O:=by
 rw[sI,c,aR,pU,f,aR];show Res.bind (Res.ok (some (x:Int)) O) _=_;rw[aR,pU,d,aR];show Res.bind (Res.ok (some (y:Int)) O) _=_;rw[aR,j6,xn,j5,Jq]
structure Lk(l:List L3)(MI MG:List Nat):Prop where
 ll:l.length<=200
 lo:∀x∈l,OkL x
 i46:46∈MI
 g46:46∈MG
 il:MI.length<=6
 gl:MG.length<=6
 io:∀c∈MI,Ok1 c
 go:∀c∈MG,Ok1 c
 xi:∀x∈l,x.2.1∈MI
 xg:∀x∈l,x.2.2∈MG
theorem Yq:Ok1 46:=by unfold Ok1;decide
theorem n8{cols:List Nat}(h:∀x∈cols,Ok1 x):∀x∈46::cols,Ok1 x:=λx a=>by
 rcases zp.mp a with rfl | a
 ·exact Yq
 ·exact h x a
theorem Yr(xs:List Int)(O:aq):∃l MI MG,Lk l MI MG/\qi [.lst (xs.map D.int)] O=.ok (.lst (l.map dL)) O:=by
 have W:=Jr xs 0 O
 generalize xs.getD 0 0=h at W
 have y0:=zN h (show(4:Int)≠0 by decide);have y1:=zO h (show(0:Int)<4 by decide)
 obtain⟨a,b,t,M,ga,gb,gt,gM,hM0,hM1,htM,hab,ha,hb⟩:∃a b t M:Nat,gIx (.lst [.int 3,.int 3,.int 1,.int 8]) (.int (h % 4))=some (.int (a:Int))/\gIx (.lst [.int 2,.int 1,.int 1,.int 8]) (.int (h % 4))=some (.int (b:Int))/\gIx (.lst [.int 20,.int 20,.int 20,.int 5]) (.int (h % 4))=some (.int (t:Int))/\gIx (.lst [.int 1,.int 1,.int 10,.int 1]) (.int (h % 4))=some (.int (M:Int))/\0<M/\M<=10/\t * M<=200/\((a<=3/\b<=3)\/t * M<=5)/\a<=100/\b<=100:=by
  have h4:h % 4=0\/h % 4=1\/h % 4=2\/h % 4=3:=by omega
  rcases h4 with h4 | h4 | h4 | h4<;>rw[h4]
  ·exact⟨3,2,20,1,rfl,rfl,rfl,rfl,by decide,by decide,by decide,by decide,by decide,by decide⟩
  ·exact⟨3,1,20,1,rfl,rfl,rfl,rfl,by decide,by decide,by decide,by decide,by decide,by decide⟩
  ·exact⟨1,1,20,10,rfl,rfl,rfl,rfl,by decide,by decide,by decide,by decide,by decide,by decide⟩
  ·exact⟨8,8,5,1,rfl,rfl,rfl,rfl,by decide,by decide,by decide,by decide,by decide,by decide⟩
 obtain⟨n,l1,o1,e1⟩:=Jt (mix h 1) a ha O;obtain⟨B,l2,o2,e2⟩:=Jt (mix h 2) b hb O;obtain⟨X,hX⟩:∃X,X=D.lst (xs.map D.int):=⟨_,rfl⟩;rw[<-hX] at W ⊢;have s1:aH 1 (aG kj (ak (aa 0) (ak (mC (.int 0)) au))) [some X,none,none,none,none,none,none,none,none,none,none] O=.nx [some X,some (.int h),none,none,none,none,none,none,none,none,none] O:=bU (i:=1) (ρ:=[some X,none,none,none,none,none,none,none,none,none,none]) (by rw[cg (ds:=[X,.int 0]) rfl];exact W)
 have s2:aH 2 (aG nR (ak (aG bZ (ak (aa 1) (ak (mC (.int 1)) au))) (ak (aj gIx (bA (ak (mC (.int 3)) (ak (mC (.int 3)) (ak (mC (.int 1)) (ak (mC (.int 8)) au))))) (aj bw (aa 1) (mC (.int 4)))) au))) [some X,some (.int h),none,none,none,none,none,none,none,none,none] O=.nx [some X,some (.int h),some (.lst ((46::n).map st)),none,none,none,none,none,none,none,none] O:=bU (i:=2) (ρ:=[some X,some (.int h),none,none,none,none,none,none,none,none,none]) (by
  rw[cg (maS (fY (c:=h) (k:=1) rfl rfl (by decide) (by decide)) (ma1 (bf (x:=.lst [.int 3,.int 3,.int 1,.int 8]) rfl (dR (i:=h) (j:=4) rfl rfl (by decide)) ga)))]
  exact e1)
 have s3:aH 3 (aG nR (ak (aG bZ (ak (aa 1) (ak (mC (.int 2)) au))) (ak (aj gIx (bA (ak (mC (.int 2)) (ak (mC (.int 1)) (ak (mC (.int 1)) (ak (mC (.int 8)) au))))) (aj bw (aa 1) (mC (.int 4)))) au))) [some X,some (.int h),some (.lst ((46::n).map st)),none,none,none,none,none,none,none,none] O=.nx [some X,some (.int h),some (.lst ((46::n).map st)),some (.lst ((46::B).map st)),none,none,none,none,none,none,none] O:=bU (i:=3) (ρ:=[some X,some (.int h),some (.lst ((46::n).map st)),none,none,none,none,none,none,none,none]) (by
  rw[cg (maS (fY (c:=h) (k:=2) rfl rfl (by decide) (by decide)) (ma1 (bf (x:=.lst [.int 2,.int 1,.int 1,.int 8]) rfl (dR (i:=h) (j:=4) rfl rfl (by decide)) gb)))]
  exact e2)
 have it:cJ (mSl (aa 0) (moS (mC (.int 2))) (moS (aj aD (mC (.int 2)) (aj gIx (bA (ak (mC (.int 20)) (ak (mC (.int 20)) (ak (mC (.int 20)) (ak (mC (.int 5)) au))))) (aj bw (aa 1) (mC (.int 4))))))) (eK X h (46::n) (46::B) [] 46 46 none none none none) O=.ok (((xs.drop 2).take t).map D.int) O:=by
  refine iw ?_
  have:=Yp (m:=aa 0) (a:=mC (.int 2)) (x:=2) (y:=2+t) (ρ:=eK X h (46::n) (46::B) [] 46 46 none none none none) (O:=O) (l:=xs.map D.int) (by rw[hX];rfl) rfl (iT (a:=mC (.int 2)) (i:=2) rfl (bf (g:=gIx) (a:=bA (ak (mC (.int 20)) (ak (mC (.int 20)) (ak (mC (.int 20)) (ak (mC (.int 5)) au))))) (x:=.lst [.int 20,.int 20,.int 20,.int 5]) rfl (dR (i:=h) (j:=4) (a:=aa 1) (b:=mC (.int 4)) rfl rfl (by decide)) gt))
  rw[show 2+t - 2=t by omega,<-List.map_drop,<-List.map_take] at this;exact this
 generalize hcl:(xs.drop 2).take t=cl at it
 have J:cl.length<=t:=by rw[<-hcl,List.length_take];exact Nat.min_le_left _ _
 obtain⟨ρ',T,ef,hO,l,i,g,Y,R,Q,H,u,F,hi,hg,C,E,Z⟩:=sS (g:=mgN 7) (b:=uI)
  (λk ρ T=>T=O/\∃(l:List L3) (i g:Nat) (Y R Q H:Option D),(k<=t->l.length<=k * M)/\(∀x∈l,OkL x)/\i∈46::n/\g∈46::B/\(∀x∈l,x.2.1∈46::n)/\(∀x∈l,x.2.2∈46::B)/\ρ=eK X h (46::n) (46::B) l i g Y R Q H) (cl.map D.int) 0 (eK X h (46::n) (46::B) [] 46 46 none none none none) O
  ⟨rfl,[],46,46,none,none,none,none,λ_=>Nat.zero_le _,λx f=>(nomatch f),zg,zg,λx f=>(nomatch f),λx f=>(nomatch f),rfl⟩ (by
  rintro k d ρ T hk ⟨rfl,l,i,g,Y,R,Q,H,u,F,hi,hg,C,E,rfl⟩;rw[zV] at u ⊢;obtain⟨c,_,rfl⟩:=zy.mp (zJ hk)
  have hkt:k<t:=by have:=(zr.mp hk).1;rw[zf] at this;omega
  have h1:=u (by omega);have h2:k * M<=t * M:=Nat.mul_le_mul (by omega) (zc _);obtain⟨i',g',x,m,a8',a9',a10',hi',hg',hx1,hx2,hx3,hm,eb⟩:=Yo (X:=X) (h:=h) (I:=46::n) (G:=46::B) (M:=M) (by simp) (by simp) gM hM0 hM1 l (by omega) i g hi hg zg c R Q H T
  have L:∀y∈l++List.replicate m x,y∈l\/y=x:=λy r=>by
   rcases zC.mp r with r | r
   ·exact .inl r
   ·exact .inr (List.eq_of_mem_replicate r)
  refine⟨_,rfl,_,_,.inl eb,rfl,_,i',g',_,_,_,_,λ_=>?_,λy r=>?_,hi',hg',λy r=>?_,λy r=>?_,rfl⟩
  ·rw[zn,List.length_replicate,Nat.succ_mul];omega
  ·rcases L y r with q | q
   ·exact F y q
   ·rw[q];exact hx1
  ·rcases L y r with q | q
   ·exact C y q
   ·rw[q];exact hx2
  ·rcases L y r with q | q
   ·exact E y q
   ·rw[q];exact hx3)
 rw[zV,zf] at u;have hl1:=u J;have hl2:cl.length * M<=t * M:=Nat.mul_le_mul J (zc _);rw[hO,Z] at ef
 have P:qi [X] O=.ok (.lst (l.map dL)) O:=by
  show bh (uo [some X,none,none,none,none,none,none,none,none,none,none] O)=_;unfold uo;rw[fH s1,fH s2,fH s3];refine(congrArg bh (fH (bU (i:=4) (d:=.lst []) rfl))).trans ?_;refine(congrArg bh (fH (bU (i:=5) (d:=st 46) rfl))).trans ?_;refine(congrArg bh (fH (bU (i:=6) (d:=st 46) rfl))).trans ?_;refine(congrArg bh (fH (show dq _ (mgN 7) uI (eK X h (46::n) (46::B) [] 46 46 none none none none) O=_ from by rw[lU,it,lV];exact ef))).trans ?_;rfl
 rcases hab with⟨q1,q2⟩ | q
 ·exact⟨l,46::n,46::B,⟨by omega,F,zg,zg,by rw[zv];omega,by rw[zv];omega,n8 o1,n8 o2,C,E⟩,P⟩
 ·refine⟨l,46::l.map (·.2.1),46::l.map (·.2.2),⟨by omega,F,zg,zg,by rw[zv,zf];omega,by rw[zv,zf];omega,n8 λc U=>?_,n8 λc U=>?_,λx f=>zq _ (zy.mpr ⟨x,f,rfl⟩),λx f=>zq _ (zy.mpr ⟨x,f,rfl⟩)⟩,P⟩
  ·obtain⟨x,f,rfl⟩:=zy.mp U;exact n8 o1 _ (C x f)
  ·obtain⟨x,f,rfl⟩:=zy.mp U;exact n8 o2 _ (E x f)
structure Okt(t:List Nat):Prop where
 len:t.length<=5000
 ok:∀c∈t,(32<=c/\c<=125)\/c=10\/c=9
theorem Okt.lt{t:List Nat}(h:Okt t):∀c∈t,c<128:=λc a=>by
 have:=h.ok c a
 omega
@[simp] theorem QzM{a:Nat}:gIx (.str [a]) (.int 0)=some (.str [a]):=rfl
@[simp] theorem QzD{a b:Nat}:gIx (.str [a,b]) (.int 0)=some (.str [a]):=rfl
@[simp] theorem Qzl{a b:Nat}:gIx (.str [a,b]) (.int 1)=some (.str [b]):=rfl
@[simp] theorem Qzi{a b c:Nat}:gIx (.str [a,b,c]) (.int 0)=some (.str [a]):=rfl
@[simp] theorem QzA{a b c:Nat}:gIx (.str [a,b,c]) (.int 1)=some (.str [b]):=rfl
@[simp] theorem Qze{a b c:Nat}:gIx (.str [a,b,c]) (.int 2)=some (.str [c]):=rfl
@[simp] theorem Qzu{a b c d:Nat}:gIx (.str [a,b,c,d]) (.int 0)=some (.str [a]):=rfl
@[simp] theorem Qzq{a b c d:Nat}:gIx (.str [a,b,c,d]) (.int 1)=some (.str [b]):=rfl
@[simp] theorem QzK{a b c d:Nat}:gIx (.str [a,b,c,d]) (.int 2)=some (.str [c]):=rfl
@[simp] theorem Qzn{a b c d:Nat}:gIx (.str [a,b,c,d]) (.int 3)=some (.str [d]):=rfl
@[simp] theorem Qzg{a b:D}:gIx (.tup [a,b]) (.int 0)=some a:=rfl
@[simp] theorem Qzv{a b:D}:gIx (.tup [a,b]) (.int 1)=some b:=rfl
@[simp] theorem QzJ{a b c:D}:gIx (.tup [a,b,c]) (.int 0)=some a:=rfl
@[simp] theorem QzO{a b c:D}:gIx (.tup [a,b,c]) (.int 1)=some b:=rfl
@[simp] theorem Qzx{a b c:D}:gIx (.tup [a,b,c]) (.int 2)=some c:=rfl
theorem Ju(a b:List Nat):(S a == S b)=decide (a=b):=by
 by_cases h:a=b
 ·subst h;rw[zj rfl];exact beq_self_eq_true _
 ·rw[ze h]
  refine beq_eq_false_iff_ne.mpr λz=>h ?_
  have:=congrArg (λx:Str=>x.cps.toList) z
  simpa [lz] using this
def kvf:Nat->List Nat->List (List Nat×List Nat)
 | 0,_=>[]
 | _+1,[]=>[]
 |n+1,c::r=>((one c r).1,(one c r).2.1)::kvf n (r.drop (one c r).2.2)
def shI(v i:List Nat):List Nat:=if v=[32] then[46] else i
def shF:List (List Nat×List Nat)->List Nat->List Nat->List D->Option (List D)
 | [],i,g,acc=>if i=[46]/\g=[46] then some acc else none
 | (k,v)::r,i,g,acc=>if k=gm\/k=gn then none else if k=bN then shF r i g (acc++[.tup [.str v,.str (shI v i),.str g]]) else if k=dO then shF r v g acc else if k=dX then shF r i v acc else shF r [46] [46] acc
def Ys:Option (List D)->D
 |some l=>.lst l
 |none=>.non
def pbh(i g k v:List Nat):List Nat×List Nat:=if k=dO then(v,g) else if k=dX then(i,v) else if k=bN then(i,g) else([46],[46])
def qt(k v i g:List Nat)(acc:List D):List D:=if k=bN then acc++[.tup [.str v,.str (shI v i),.str g]] else acc
theorem qw{k v:List Nat}(a:¬(k=gm\/k=gn))(r:List (List Nat×List Nat))(i g:List Nat)(acc:List D):shF ((k,v)::r) i g acc=shF r (pbh i g k v).1 (pbh i g k v).2 (qt k v i g acc):=by
 show(if k=gm\/k=gn then none else if k=bN then shF r i g (acc++[.tup [.str v,.str (shI v i),.str g]]) else if k=dO then shF r v g acc else if k=dX then shF r i v acc else shF r [46] [46] acc)=_;rw[if_neg a];unfold pbh qt
 by_cases h1:k=bN
 ·subst h1;rfl
 ·rw[if_neg h1,if_neg h1]
  by_cases h2:k=dO
  ·rw[if_pos h2,if_pos h2,if_neg h1]
  ·rw[if_neg h2,if_neg h2]
   by_cases h3:k=dX
   ·rw[if_pos h3,if_pos h3,if_neg h1]
   ·rw[if_neg h3,if_neg h3,if_neg h1]
theorem Yt(k v i g:List Nat)(acc:List D):(qt k v i g acc).length<=acc.length+1:=by
 unfold qt
 split
 ·rw[zn];exact zc _
 ·exact Nat.le_succ _
theorem Yu{c:Nat}:gIn false (.str [c]) (.str [97,98,99,100,101,102,103,104,46])=some (.bl (col c)):=by
 rw[Hz];simp[col]
theorem one_le(c:Nat)(r:List Nat):(one c r).2.2<=r.length:=by
 unfold one
 split
 ·simp
 split
 ·simp
 split
 ·unfold dY
  cases r with
  |nil=>simp
  |cons d r =>
   dsimp only
   split
   ·simp
   split
   ·simp
   split
   ·unfold iK
    cases r with
    |nil=>simp
    |cons e r=>dsimp only;split<;>simp
   split
   ·unfold jF
    cases r with
    |nil=>simp
    |cons e r =>
     dsimp only
     split
     ·unfold j8
      cases r with
      |nil=>simp
      |cons f r=>dsimp only;split<;>simp
     ·simp
   ·simp
 ·simp
theorem Yv(O:aq):dZ [.str []] O=.ok (.bl false) O:=rfl
theorem Yw(c:Nat)(O:aq):dZ [.str [c]] O=.ok (.bl (col c)) O:=by
 simp[-Hz,dZ,Ae,Yu]
def knd(c:Nat):List Nat:=if c=10 then gm else if c=9 then gn else bN
def uJ:L2.M D:=(rK (pG (j0 (mC (.str [10])) (mC (.str [101,110,100])) (j0 (mC (.str [9])) (mC (.str [97,110,101,119])) pF))) (aj gIx (aa 0) (aa 2)) (mC (.str [115,105,103,110])))
theorem Yx{ρ:aA}{O:aq}{c:Nat}(h:aj gIx (aa 0) (aa 2) ρ O=.ok (.str [c]) O):uJ ρ O=.ok (.str (knd c)) O:=by
 have f:pG (j0 (mC (.str [10])) (mC (.str [101,110,100])) (j0 (mC (.str [9])) (mC (.str [97,110,101,119])) pF)) ρ O=.ok (.dic [.str [10],.str [9]] [.str [101,110,100],.str [97,110,101,119]]) O:=rfl;unfold uJ rK;rw[f,aR,h,aR,m_c,aR];show Res.ok ((jZ [.str [10],.str [9]] [.str [101,110,100],.str [97,110,101,119]] (.inr (S [c]))).getD (.str [115,105,103,110])) O=_;unfold knd
 by_cases h1:c=10
 ·subst h1;rfl
 ·by_cases h2:c=9
  ·subst h2;rfl
  ·rw[if_neg h1,if_neg h2]
   have d:S [10]≠S [c]:=λz=>h1 (List.cons.inj (lA z)).1.symm
   have a:S [9]≠S [c]:=λz=>h2 (List.cons.inj (lA z)).1.symm
   have:jZ [.str [10],.str [9]] [.str [101,110,100],.str [97,110,101,119]] (.inr (S [c]))=none:=by
    simp[jZ,d,a]
   rw[this];rfl
def rv(c:Nat)(r:List Nat):List Nat:=if c=10\/c=9 then[c] else(one c r).2.1
def rd(c:Nat)(r:List Nat):D:=.tup [.str (one c r).1,.str (rv c r),.int ((one c r).2.2+1:Nat)]
def bR:MS:=(bc (aB (aj gEq (mSl (aa 0) (moS (aa 2)) (moS (aj aD (aa 2) (mC (.int 2))))) (mC (.str [91,91])))) (cT 1 (bH (ak (mC (.str [115,105,103,110])) (ak (mC (.str [91])) (ak (mC (.int 2)) au))))) (bc (aB (aj gEq (mSl (aa 0) (moS (aa 2)) (moS (aj aD (aa 2) (mC (.int 2))))) (mC (.str [91,93])))) (cT 1 (bH (ak (mC (.str [112,108,97,105,110])) (ak (mC (.str [])) (ak (mC (.int 2)) au))))) (bc (b7 (aB (aj gEq (aj gIx (aa 0) (aa 2)) (mC (.str [91])))) (b7 (cW (aG dZ (ak (mSl (aa 0) (moS (aj aD (aa 2) (mC (.int 1)))) (moS (aj aD (aa 2) (mC (.int 2))))) au))) (aB (aj gEq (mSl (aa 0) (moS (aj aD (aa 2) (mC (.int 2)))) (moS (aj aD (aa 2) (mC (.int 3))))) (mC (.str [93])))))) (cT 1 (bH (ak (mC (.str [105,110,107])) (ak (aj gIx (aa 0) (aj aD (aa 2) (mC (.int 1)))) (ak (mC (.int 3)) au))))) (bc (b7 (aB (aj gEq (mSl (aa 0) (moS (aa 2)) (moS (aj aD (aa 2) (mC (.int 2))))) (mC (.str [91,47])))) (b7 (cW (aG dZ (ak (mSl (aa 0) (moS (aj aD (aa 2) (mC (.int 2)))) (moS (aj aD (aa 2) (mC (.int 3))))) au))) (aB (aj gEq (mSl (aa 0) (moS (aj aD (aa 2) (mC (.int 3)))) (moS (aj aD (aa 2) (mC (.int 4))))) (mC (.str [93])))))) (cT 1 (bH (ak (mC (.str [103,114,111,117,110,100])) (ak (aj gIx (aa 0) (aj aD (aa 2) (mC (.int 2)))) (ak (mC (.int 4)) au))))) (cT 1 (bH (ak uJ (ak (aj gIx (aa 0) (aa 2)) (ak (mC (.int 1)) au)))))))))
theorem Jv{t:List Nat}{n c:Nat}{r:List Nat}(h:t.drop n=c::r)(j:Nat):t.drop (n+j)=(c::r).drop j:=by rw[<-List.drop_drop,h]
theorem Jw{t:List Nat}(hz:t.length<=1000000){n j:Nat}{x:Nat}{s:List Nat}(h:t.drop (n+j)=x::s):gIx (.str t) (.int ((n:Int)+(j:Int)))=some (.str [x]):=by
 rw[HB,if_pos hz,show(n:Int)+(j:Int)=((n+j:Nat):Int) by push_cast;rfl,pY]
 have:t[n+j]?=some x:=by
  have:=congrArg (λl=>l[0]?) h
  simpa using this
 rw[this];rfl
def rd4(c:Nat)(r:List Nat):D :=
 if(c::r).take 2=[91,91] then .tup [.str [115,105,103,110],.str [91],.int 2]
 else if(c::r).take 2=[91,93] then .tup [.str [112,108,97,105,110],.str [],.int 2]
 else match r with
  | []=>.tup [.str (knd c),.str [c],.int 1]
  |d::s=>if c=91/\col d=true/\s.take 1=[93] then .tup [.str [105,110,107],.str [d],.int 3]
   else match s with
    | []=>.tup [.str (knd c),.str [c],.int 1]
    |e::u=>if c=91/\d=47/\col e=true/\u.take 1=[93] then .tup [.str [103,114,111,117,110,100],.str [e],.int 4] else .tup [.str (knd c),.str [c],.int 1]
theorem Yy(c:Nat)(r:List Nat):rd4 c r=rd c r:=by
 by_cases m:c=10
 ·subst m
  match r with
  | []=>rfl
  | [d]=>simp[rd4,rd,rv,one,knd]
  |d::e::u=>simp[rd4,rd,rv,one,knd]
 by_cases q:c=9
 ·subst q
  match r with
  | []=>rfl
  | [d]=>simp[rd4,rd,rv,one,knd]
  |d::e::u=>simp[rd4,rd,rv,one,knd]
 by_cases l:c=91
 ·subst l
  match r with
  | []=>simp[rd4,rd,rv,one,dY,knd,bN]
  | [d] =>
   by_cases a:d=93
   ·simp[rd4,rd,rv,one,dY,knd,a,fV]
   by_cases j:d=91
   ·simp[rd4,rd,rv,one,dY,knd,a,j,bN]
   by_cases d3:col d=true<;>by_cases n:d=47<;>simp[rd4,rd,rv,one,dY,iK,jF,knd,a,j,d3,n,bN]
  | [d,e] =>
   by_cases a:d=93
   ·simp[rd4,rd,rv,one,dY,knd,a,fV]
   by_cases j:d=91
   ·simp[rd4,rd,rv,one,dY,knd,a,j,bN]
   by_cases d3:col d=true
   ·have B:=(sU d3).2.2.1
    by_cases y:e=93<;>simp[rd4,rd,rv,one,dY,iK,knd,a,j,d3,B,y,bN,dO]
   by_cases n:d=47
   ·by_cases x:col e=true<;>simp[rd4,rd,rv,one,dY,jF,j8,knd,a,j,d3,n,x,bN,xA]
   ·simp[rd4,rd,rv,one,dY,iK,jF,knd,a,j,d3,n,bN]
  |d::e::f::g =>
   by_cases a:d=93
   ·simp[rd4,rd,rv,one,dY,knd,a,fV]
   by_cases j:d=91
   ·simp[rd4,rd,rv,one,dY,knd,a,j,bN]
   by_cases d3:col d=true
   ·have B:=(sU d3).2.2.1
    by_cases y:e=93<;>simp[rd4,rd,rv,one,dY,iK,knd,a,j,d3,B,y,bN,dO]
   by_cases n:d=47
   ·by_cases x:col e=true
    ·by_cases C:f=93<;>simp[rd4,rd,rv,one,dY,jF,j8,knd,a,j,d3,n,x,C,bN,dX,xA]
    ·simp[rd4,rd,rv,one,dY,jF,j8,knd,a,j,d3,n,x,bN,xA]
   ·simp[rd4,rd,rv,one,dY,iK,jF,knd,a,j,d3,n,bN]
 ·match r with
  | []=>simp[rd4,rd,rv,one,knd,bN,m,q,l]
  | [d]=>simp[rd4,rd,rv,one,knd,bN,m,q,l]
  |d::e::u=>simp[rd4,rd,rv,one,knd,bN,m,q,l]
theorem Yz{a b:L2.M (Option Int)}{m:L2.M D}{ρ:aA}{O:aq}{t:List Nat}{x y:Option Int}(c:m ρ O=.ok (.str t) O)(f:a ρ O=.ok x O)(d:b ρ O=.ok y O)(hz:t.length<=1000000):mSl m a b ρ O=.ok (.str (dj t x y)) O:=by
 rw[sI,c,aR,f,aR,d,aR,w5,We,if_pos (by omega),j5]
theorem Jx{m:L2.M D}{ρ:aA}{O:aq}{i:Int}(h:m ρ O=.ok (.int i) O):moS m ρ O=.ok (some i) O:=by rw[pU,h,aR,xj]
theorem uK{a b:L2.M D}{ρ:aA}{O:aq}{i j:List Nat}(d:a ρ O=.ok (.str i) O)(c:b ρ O=.ok (.str j) O):aB (aj gEq a b) ρ O=.ok (decide (i=j)) O:=dB (bf d c rfl)
section
variable {t r:List Nat}{n c:Nat}{pre:List D}{O:aq}
theorem Jy(j:Nat):aj aD (aa 2) (mC (.int (j:Int))) [some (D.str t),some (D.lst pre),some (D.int (n:Int))] O=.ok (.int (((n+j:Nat)):Int)) O:=by
 rw[iT (i:=(n:Int)) (j:=(j:Int)) rfl rfl];congr 2
theorem Bq(hz:t.length<=1000000)(hd:t.drop n=c::r)(i j:Nat){a b:L2.M (Option Int)}(f:a [some (D.str t),some (D.lst pre),some (D.int (n:Int))] O=.ok (some ((n+i:Nat):Int)) O)(d:b [some (D.str t),some (D.lst pre),some (D.int (n:Int))] O=.ok (some ((n+j:Nat):Int)) O):mSl (aa 0) a b [some (D.str t),some (D.lst pre),some (D.int (n:Int))] O=.ok (.str (((c::r).drop i).take (j - i))) O:=by
 rw[Yz (t:=t) rfl f d hz,Jq,Jv hd,show n+j - (n+i)=j - i by omega]
theorem YB:moS (aa 2) [some (D.str t),some (D.lst pre),some (D.int (n:Int))] O=.ok (some ((n+0:Nat):Int)) O:=Jx rfl
theorem qx(j:Nat):moS (aj aD (aa 2) (mC (.int (j:Int)))) [some (D.str t),some (D.lst pre),some (D.int (n:Int))] O=.ok (some ((n+j:Nat):Int)) O:=Jx (Jy j)
theorem Br(hz:t.length<=1000000)(hd:t.drop n=c::r):aj gIx (aa 0) (aa 2) [some (D.str t),some (D.lst pre),some (D.int (n:Int))] O=.ok (.str [c]) O:=bf (x:=.str t) (y:=.int (n:Int)) rfl rfl (by
 have:=Jw (n:=n) (j:=0) hz (x:=c) (s:=r) hd
 rw[show((n:Int)+((0:Nat):Int))=(n:Int) by simp] at this
 exact this)
theorem Jz(hz:t.length<=1000000)(hd:t.drop n=c::r)(j:Nat){x:Nat}{s:List Nat}(a:(c::r).drop j=x::s):aj gIx (aa 0) (aj aD (aa 2) (mC (.int (j:Int)))) [some (D.str t),some (D.lst pre),some (D.int (n:Int))] O=.ok (.str [x]) O:=bf (x:=.str t) (y:=.int ((n+j:Nat):Int)) rfl (Jy j) (by
 have:=Jw (n:=n) (j:=j) hz (x:=x) (s:=s) (by rw[Jv hd];exact a)
 rw[show((n:Int)+(j:Int))=((n+j:Nat):Int) by push_cast;rfl] at this
 exact this)
theorem qy{a b z:L2.M D}{x y w:D}(j:a [some (D.str t),some (D.lst pre),some (D.int (n:Int))] O=.ok x O)(g:b [some (D.str t),some (D.lst pre),some (D.int (n:Int))] O=.ok y O)(f:z [some (D.str t),some (D.lst pre),some (D.int (n:Int))] O=.ok w O)(d:pre.length<1000000):cT 1 (bH (ak a (ak b (ak z au)))) [some (D.str t),some (D.lst pre),some (D.int (n:Int))] O=.nx [some (D.str t),some (D.lst (pre++[.tup [x,y,w]])),some (D.int (n:Int))] O :=
 qj (jK (maS j (maS g (ma1 f))) (show(3:Nat)<=1000000 by decide)) rfl d
theorem YC(hz:t.length<=1000000)(C:pre.length<1000000)(hd:t.drop n=c::r):bR [some (D.str t),some (D.lst pre),some (D.int (n:Int))] O=.nx [some (D.str t),some (D.lst (pre++[rd4 c r])),some (D.int (n:Int))] O:=by
 have E:∀q,aB (aj gEq (mSl (aa 0) (moS (aa 2)) (moS (aj aD (aa 2) (mC (.int 2))))) (mC (.str q))) [some (D.str t),some (D.lst pre),some (D.int (n:Int))] O=.ok (decide ((c::r).take 2=q)) O:=λq=>uK (Bq hz hd 0 2 YB (qx 2)) rfl
 have J:aB (aj gEq (aj gIx (aa 0) (aa 2)) (mC (.str [91]))) [some (D.str t),some (D.lst pre),some (D.int (n:Int))] O=.ok (decide ([c]=[91])) O:=uK (Br hz hd) rfl
 have j:∀i:Nat,∀l,((c::r).drop i).take 1=l->cW (aG dZ (ak (mSl (aa 0) (moS (aj aD (aa 2) (mC (.int (i:Int))))) (moS (aj aD (aa 2) (mC (.int ((i+1:Nat):Int)))))) au)) [some (D.str t),some (D.lst pre),some (D.int (n:Int))] O=.ok (match l with | [x]=>col x | _=>false) O:=λi l G=>by
  have q:=Bq (O:=O) (pre:=pre) hz hd i (i+1) (qx i) (qx (i+1));rw[show i+1 - i=1 by omega,G] at q;rw[w6,cg (ma1 q)]
  match l,G with
  | [],_=>rw[Yv];rfl
  | [x],_=>rw[Yw];rfl
  |x::y::l,G =>
   have:=congrArg List.length G
   rw[List.length_take] at this;simp only[zv] at this;omega
 have I:∀i:Nat,aB (aj gEq (mSl (aa 0) (moS (aj aD (aa 2) (mC (.int (i:Int))))) (moS (aj aD (aa 2) (mC (.int ((i+1:Nat):Int)))))) (mC (.str [93]))) [some (D.str t),some (D.lst pre),some (D.int (n:Int))] O=.ok (decide (((c::r).drop i).take 1=[93])) O:=λi=>by
  have q:=Bq (O:=O) (pre:=pre) hz hd i (i+1) (qx i) (qx (i+1));rw[show i+1 - i=1 by omega] at q;exact uK q rfl
 have last:cT 1 (bH (ak uJ (ak (aj gIx (aa 0) (aa 2)) (ak (mC (.int 1)) au)))) [some (D.str t),some (D.lst pre),some (D.int (n:Int))] O=.nx [some (D.str t),some (D.lst (pre++[.tup [.str (knd c),.str [c],.int 1]])),some (D.int (n:Int))] O:=qy (Yx (Br hz hd)) (Br hz hd) rfl C;unfold bR rd4
 by_cases h1:(c::r).take 2=[91,91]
 ·rw[ir (by rw[E,zj h1]),if_pos h1];exact qy rfl rfl rfl C
 rw[if_no (by rw[E,ze h1]),if_neg h1]
 by_cases h2:(c::r).take 2=[91,93]
 ·rw[ir (by rw[E,zj h2]),if_pos h2];exact qy rfl rfl rfl C
 rw[if_no (by rw[E,ze h2]),if_neg h2];have a1:=j 1;have a2:=j 2;have H:=I 2;have m:=I 3;have g:=E [91,47]
 match r,hd,h1,h2,a1,a2,H,m,last,g with
 | [],hd,h1,h2,a1,a2,H,m,last,g =>
  have F:b7 (aB (aj gEq (aj gIx (aa 0) (aa 2)) (mC (.str [91])))) (b7 (cW (aG dZ (ak (mSl (aa 0) (moS (aj aD (aa 2) (mC (.int 1)))) (moS (aj aD (aa 2) (mC (.int 2))))) au))) (aB (aj gEq (mSl (aa 0) (moS (aj aD (aa 2) (mC (.int 2)))) (moS (aj aD (aa 2) (mC (.int 3))))) (mC (.str [93]))))) [some (D.str t),some (D.lst pre),some (D.int (n:Int))] O=.ok false O:=by
   have a:=a1 [] rfl;rw[eV,J,aR]
   by_cases f:[c]=[91]
   ·rw[zj f,if_pos rfl,eV];rw[show cW (aG dZ (ak (mSl (aa 0) (moS (aj aD (aa 2) (mC (.int 1)))) (moS (aj aD (aa 2) (mC (.int 2))))) au)) [some (D.str t),some (D.lst pre),some (D.int (n:Int))] O=.ok false O from a,aR];rfl
   ·rw[ze f];rfl
  have B:b7 (aB (aj gEq (mSl (aa 0) (moS (aa 2)) (moS (aj aD (aa 2) (mC (.int 2))))) (mC (.str [91,47])))) (b7 (cW (aG dZ (ak (mSl (aa 0) (moS (aj aD (aa 2) (mC (.int 2)))) (moS (aj aD (aa 2) (mC (.int 3))))) au))) (aB (aj gEq (mSl (aa 0) (moS (aj aD (aa 2) (mC (.int 3)))) (moS (aj aD (aa 2) (mC (.int 4))))) (mC (.str [93]))))) [some (D.str t),some (D.lst pre),some (D.int (n:Int))] O=.ok false O:=by
   rw[eV,g,aR,ze (show ¬List.take 2 [c]=[91,47] from λz=>by cases z)];rfl
  rw[if_no F,if_no B];exact last
 |d::s,hd,h1,h2,a1,a2,H,m,last,g =>
  have F:b7 (aB (aj gEq (aj gIx (aa 0) (aa 2)) (mC (.str [91])))) (b7 (cW (aG dZ (ak (mSl (aa 0) (moS (aj aD (aa 2) (mC (.int 1)))) (moS (aj aD (aa 2) (mC (.int 2))))) au))) (aB (aj gEq (mSl (aa 0) (moS (aj aD (aa 2) (mC (.int 2)))) (moS (aj aD (aa 2) (mC (.int 3))))) (mC (.str [93]))))) [some (D.str t),some (D.lst pre),some (D.int (n:Int))] O=.ok (decide (c=91/\col d=true/\s.take 1=[93])) O:=by
   have a:cW (aG dZ (ak (mSl (aa 0) (moS (aj aD (aa 2) (mC (.int 1)))) (moS (aj aD (aa 2) (mC (.int 2))))) au)) [some (D.str t),some (D.lst pre),some (D.int (n:Int))] O=.ok (col d) O:=a1 [d] rfl;have b:aB (aj gEq (mSl (aa 0) (moS (aj aD (aa 2) (mC (.int 2)))) (moS (aj aD (aa 2) (mC (.int 3))))) (mC (.str [93]))) [some (D.str t),some (D.lst pre),some (D.int (n:Int))] O=.ok (decide (s.take 1=[93])) O:=H;rw[eV,J,aR]
   by_cases f:c=91
   ·subst f;rw[zj rfl,if_pos rfl,eV,a,aR]
    cases hcd:col d with
    |true =>
     rw[if_pos rfl,b];simp
    |false=>simp
   ·rw[ze (λz=>f (List.cons.inj z).1)];simp[f]
  by_cases h3:c=91/\col d=true/\s.take 1=[93]
  ·rw[ir (by rw[F,zj h3])];dsimp only;rw[if_pos h3];exact qy rfl (Jz hz hd 1 (x:=d) (s:=s) rfl) rfl C
  ·rw[if_no (by rw[F,ze h3])];dsimp only;rw[if_neg h3]
   match s,hd,a2,m,g,last with
   | [],hd,a2,m,g,last =>
    have B:b7 (aB (aj gEq (mSl (aa 0) (moS (aa 2)) (moS (aj aD (aa 2) (mC (.int 2))))) (mC (.str [91,47])))) (b7 (cW (aG dZ (ak (mSl (aa 0) (moS (aj aD (aa 2) (mC (.int 2)))) (moS (aj aD (aa 2) (mC (.int 3))))) au))) (aB (aj gEq (mSl (aa 0) (moS (aj aD (aa 2) (mC (.int 3)))) (moS (aj aD (aa 2) (mC (.int 4))))) (mC (.str [93]))))) [some (D.str t),some (D.lst pre),some (D.int (n:Int))] O=.ok false O:=by
     have a:cW (aG dZ (ak (mSl (aa 0) (moS (aj aD (aa 2) (mC (.int 2)))) (moS (aj aD (aa 2) (mC (.int 3))))) au)) [some (D.str t),some (D.lst pre),some (D.int (n:Int))] O=.ok false O:=a2 [] rfl;rw[eV,g,aR]
     by_cases f:List.take 2 [c,d]=[91,47]
     ·rw[zj f,if_pos rfl,eV,a,aR];rfl
     ·rw[ze f];rfl
    rw[if_no B];exact last
   |e::u,hd,a2,m,g,last =>
    have B:b7 (aB (aj gEq (mSl (aa 0) (moS (aa 2)) (moS (aj aD (aa 2) (mC (.int 2))))) (mC (.str [91,47])))) (b7 (cW (aG dZ (ak (mSl (aa 0) (moS (aj aD (aa 2) (mC (.int 2)))) (moS (aj aD (aa 2) (mC (.int 3))))) au))) (aB (aj gEq (mSl (aa 0) (moS (aj aD (aa 2) (mC (.int 3)))) (moS (aj aD (aa 2) (mC (.int 4))))) (mC (.str [93]))))) [some (D.str t),some (D.lst pre),some (D.int (n:Int))] O=.ok (decide (c=91/\d=47/\col e=true/\u.take 1=[93])) O:=by
     have a:cW (aG dZ (ak (mSl (aa 0) (moS (aj aD (aa 2) (mC (.int 2)))) (moS (aj aD (aa 2) (mC (.int 3))))) au)) [some (D.str t),some (D.lst pre),some (D.int (n:Int))] O=.ok (col e) O:=a2 [e] rfl;have b:aB (aj gEq (mSl (aa 0) (moS (aj aD (aa 2) (mC (.int 3)))) (moS (aj aD (aa 2) (mC (.int 4))))) (mC (.str [93]))) [some (D.str t),some (D.lst pre),some (D.int (n:Int))] O=.ok (decide (u.take 1=[93])) O:=m;rw[eV,g,aR]
     by_cases f:c=91/\d=47
     ·obtain⟨rfl,rfl⟩:=f;rw[zj (show List.take 2 (91::47::e::u)=[91,47] from rfl),if_pos rfl,eV,a,aR]
      cases hcd:col e with
      |true =>
       rw[if_pos rfl,b];simp
      |false=>simp
     ·rw[ze (show ¬List.take 2 (c::d::e::u)=[91,47] from λz=>f ⟨(List.cons.inj z).1,(List.cons.inj (List.cons.inj z).2).1⟩)]
      have:¬(c=91/\d=47/\col e=true/\u.take 1=[93]):=λz=>f ⟨z.1,z.2.1⟩
      rw[ze this];rfl
    by_cases h4:c=91/\d=47/\col e=true/\u.take 1=[93]
    ·rw[ir (by rw[B,zj h4])];dsimp only;rw[if_pos h4];exact qy rfl (Jz hz hd 2 (x:=e) (s:=u) rfl) rfl C
    ·rw[if_no (by rw[B,ze h4])];dsimp only;rw[if_neg h4];exact last
end
def lrf:Nat->List Nat->List D
 | 0,_=>[]
 | _+1,[]=>[]
 |n+1,c::r=>rd c r::lrf n (r.drop (one c r).2.2)
theorem JB:∀(n m:Nat) (t:List Nat),t.length<=n->t.length<=m->lrf n t=lrf m t
 | 0,m,t,h,_=>by
  cases t with
  |nil=>cases m<;>rfl
  |cons c t=>simp at h
 |n+1,0,t,_,h=>by
  cases t with
  |nil=>rfl
  |cons c t=>simp at h
 |n+1,m+1,[],_,_=>rfl
 |n+1,m+1,c::r,h,h'=>by
  simp only[zv] at h h';show rd c r::_=rd c r::_;rw[JB n m _ (by rw[List.length_drop];omega) (by rw[List.length_drop];omega)]
theorem YD{pre:List D}{x:D}:gIx (.lst (pre++[x])) (.int (-1))=some x:=by
 rw[pX]
 have q:atI (pre++[x]) (-1)=(pre++[x])[pre.length]?:=by
  have z:ixN (pre++[x]).length (-1)=some pre.length:=by
   unfold ixN;rw[zn,jd,if_neg (by omega),if_pos (by omega)];congr 1;omega
  unfold atI;rw[z];rfl
 rw[q,zH (zc _),Nat.sub_self];rfl
theorem YF(t:List Nat)(F:t.length<=5000)(O:aq):uw [.str t] O=.ok (.lst (lrf t.length t)) O:=by
 obtain⟨E,d,e,rfl,pre,a,rfl,h1,h2,h3,h4⟩:=HS (t:=aB (aj gLt (aa 2) (bK cR (ak (aa 0) au))))
  (b:=aC bR (aH 2 (aj aD (aa 2) (aj gIx (aj gIx (aa 1) (mUn jz (mC (.int 1)))) (mC (.int 2))))))
  (λk ρ d=>d=O/\∃(pre:List D) (a:Nat),ρ=[some (.str t),some (.lst pre),some (.int a)]/\a<=t.length/\k=t.length - a/\pre++lrf (t.length - a) (t.drop a)=lrf t.length t/\pre.length<=a)
  wF t.length [some (.str t),some (.lst []),some (.int 0)] O (by unfold wF;omega) ⟨rfl,[],0,rfl,Nat.zero_le _,by omega,by simp,by simp⟩ (by
   rintro k ρ d ⟨rfl,pre,a,rfl,h1,h2,h3,h4⟩
   have g:t.length<=1000000:=by omega
   have f:a<t.length:=by omega
   refine⟨by simp[g,f],?_⟩
   cases hd:t.drop a with
   |nil =>
    have:=congrArg List.length hd
    simp at this
    omega
   |cons c r =>
    have C:=congrArg List.length hd;simp at C;have G:=one_le c r;have l:=YC (O:=d) (n:=a) g (show pre.length<1000000 by omega) hd;rw[Yy] at l;refine⟨t.length - (a+((one c r).2.2+1)),[some (.str t),some (.lst (pre++[rd c r])),some (.int ((a+((one c r).2.2+1):Nat):Int))],d,by omega,?_,rfl,_,_,rfl,by omega,rfl,?_,?_⟩
    ·rw[gY l];refine bU ?_;refine(iT (i:=(a:Int)) (j:=(((one c r).2.2+1:Nat):Int)) rfl ?_).trans ?_
     ·refine bf (x:=rd c r) (y:=.int 2) (bf (x:=.lst (pre++[rd c r])) (y:=.int (-1)) rfl rfl YD) rfl ?_;rfl
     ·congr 2
    ·have q:t.drop (a+((one c r).2.2+1))=r.drop (one c r).2.2:=by
      rw[<-List.drop_drop,hd,Nat.add_comm,<-List.drop_drop];rfl
     rw[q,<-h3,hd,zE];congr 1;obtain⟨m,B⟩:∃m,t.length - a=m+1:=⟨t.length - a - 1,by omega⟩;rw[B];show[rd c r]++_=rd c r::lrf m (r.drop (one c r).2.2);rw[JB (t.length - (a+((one c r).2.2+1))) m _ (by rw[List.length_drop];omega) (by rw[List.length_drop];omega)];rfl
    ·simp
     omega) (by
   rintro ρ d ⟨rfl,pre,a,rfl,h1,h2,h3,h4⟩
   have g:t.length<=1000000:=by omega
   have f:t.length<=a:=by omega
   simp[g,f])
 have hd:t.drop a=[]:=List.drop_eq_nil_of_le (by omega)
 have u:lrf (t.length - a) (t.drop a)=[]:=by
  rw[hd]
  cases t.length - a<;>rfl
 rw[u,zX] at h3;subst h3;show bh (uv [some (.str t),none,none] d)=_;unfold uv;rw[gY (show aH 1 (bA au) [some (.str t),none,none] d=.nx [some (.str t),some (.lst []),none] d from rfl),gY (show aH 2 (mC (.int 0)) [some (.str t),some (.lst []),none] d=.nx [some (.str t),some (.lst []),some (.int 0)] d from rfl)];show bh (aC (gK wF (aB (aj gLt (aa 2) (bK cR (ak (aa 0) au)))) (aC bR (aH 2 (aj aD (aa 2) (aj gIx (aj gIx (aa 1) (mUn jz (mC (.int 1)))) (mC (.int 2))))))) (aZ (aa 1)) [some (.str t),some (.lst []),some (.int 0)] d)=_;rw[gY (show gK wF _ _ [some (.str t),some (.lst []),some (.int 0)] d=_ from e)]
 rfl
def bS:MS:=(aC (bc (cO (aB (aj gEq (aa 4) (mC (.str [101,110,100])))) (aB (aj gEq (aa 4) (mC (.str [97,110,101,119]))))) (aZ (mG (mC .non))) bz)
  (aC (bc (aB (aj gEq (aa 4) (mC (.str [115,105,103,110])))) (cT 1 (bH (ak (aa 5) (ak (aj gIx (bA (ak (aa 2) (ak (mC (.str [46])) au))) (bK iI (ak (aj gEq (aa 5) (mC (.str [32]))) au))) (ak (aa 3) au))))) bz)
  (aC (bc (aB (aj gEq (aa 4) (mC (.str [105,110,107])))) (aH 2 (aa 5)) bz)
  (aC (bc (aB (aj gEq (aa 4) (mC (.str [103,114,111,117,110,100])))) (aH 3 (aa 5)) bz)
  (bc (aB (aj gEq (aa 4) (mC (.str [112,108,97,105,110])))) (aC (aH 2 (mC (.str [46])))
  (aH 3 (mC (.str [46])))) bz)))))
def gS:MG:=gh 3 (cG (mgN 4) (cG (mgN 5) (cG (mgN 6) gJ)))
theorem Bs{k q:List Nat}{j g f d c a:Option D}{O:aq}:aB (aj gEq (aa 4) (mC (.str q))) [j,g,f,d,some (.str k),c,a] O=.ok (decide (k=q)) O:=uK rfl rfl
theorem YG{k:List Nat}(l:k=gm\/k=gn)(j g f d c a:Option D)(O:aq):bS [j,g,f,d,some (.str k),c,a] O=.rt .non O:=by
 unfold bS
 rcases l with rfl | rfl
 ·rfl
 ·rfl
def isK(k:List Nat):Prop:=k=gm\/k=gn\/k=bN\/k=dO\/k=dX\/k=fV
theorem YH{k:List Nat}(f:¬(k=gm\/k=gn))(q:isK k)(v i g:List Nat)(acc:List D)(n:acc.length<1000000)(c a:Option D)(O:aq):bS [c,some (.lst acc),some (.str i),some (.str g),some (.str k),some (.str v),a] O =
  .nx [c,some (.lst (qt k v i g acc)),some (.str (pbh i g k v).1),some (.str (pbh i g k v).2),some (.str k),some (.str v),a] O:=by
 have j:cT 1 (bH (ak (aa 5) (ak (aj gIx (bA (ak (aa 2) (ak (mC (.str [46])) au))) (bK iI (ak (aj gEq (aa 5) (mC (.str [32]))) au))) (ak (aa 3) au)))) [c,some (.lst acc),some (.str i),some (.str g),some (.str k),some (.str v),a] O =
   .nx [c,some (.lst (acc++[.tup [.str v,.str (shI v i),.str g]])),some (.str i),some (.str g),some (.str k),some (.str v),a] O:=by
  refine qj (d:=.tup [.str v,.str (shI v i),.str g]) (jK (maS (x:=.str v) rfl (maS (x:=.str (shI v i)) ?_ (ma1 (x:=.str g) rfl))) (show(3:Nat)<=1000000 by decide)) rfl n;unfold shI
  by_cases h:v=[32]
  ·subst h;rw[if_pos rfl];rfl
  ·rw[if_neg h];refine bf (x:=.lst [.str i,.str [46]]) (y:=.int 0) rfl (km (xs:=[.bl false]) (ma1 (bf (x:=.str v) (y:=.str [32]) rfl rfl ?_)) rfl) rfl;show some (D.bl (decide (v=[32])))=_;rw[ze h]
 have m:¬k=[101,110,100]:=λz=>f (.inl z)
 have l:¬k=[97,110,101,119]:=λz=>f (.inr z)
 unfold bS;rw[gY (show bc (cO (aB (aj gEq (aa 4) (mC (.str [101,110,100])))) (aB (aj gEq (aa 4) (mC (.str [97,110,101,119]))))) (aZ (mG (mC .non))) bz [c,some (.lst acc),some (.str i),some (.str g),some (.str k),some (.str v),a] O=.nx [c,some (.lst acc),some (.str i),some (.str g),some (.str k),some (.str v),a] O from if_no (by rw[j7,Bs,aR,ze m,Bs,ze l];rfl))]
 rcases q with rfl | rfl | rfl | rfl | rfl | rfl
 ·exact absurd (.inl rfl) f
 ·exact absurd (.inr rfl) f
 ·rw[gY (show bc (aB (aj gEq (aa 4) (mC (.str [115,105,103,110])))) (cT 1 (bH (ak (aa 5) (ak (aj gIx (bA (ak (aa 2) (ak (mC (.str [46])) au))) (bK iI (ak (aj gEq (aa 5) (mC (.str [32]))) au))) (ak (aa 3) au))))) bz [c,some (.lst acc),some (.str i),some (.str g),some (.str bN),some (.str v),a] O=_ from(ir Bs).trans j)];rfl
 ·rfl
 ·rfl
 ·rfl
theorem YJ(c:Nat)(r:List Nat):isK (one c r).1:=by
 unfold isK one
 split
 ·exact .inl rfl
 split
 ·exact .inr (.inl rfl)
 split
 ·unfold dY
  cases r with
  |nil=>exact .inr (.inr (.inl rfl))
  |cons d r =>
   dsimp only
   split
   ·exact .inr (.inr (.inr (.inr (.inr rfl))))
   split
   ·exact .inr (.inr (.inl rfl))
   split
   ·unfold iK
    cases r with
    |nil=>exact .inr (.inr (.inl rfl))
    |cons e r =>
     dsimp only
     split
     ·exact .inr (.inr (.inr (.inl rfl)))
     ·exact .inr (.inr (.inl rfl))
   split
   ·unfold jF
    cases r with
    |nil=>exact .inr (.inr (.inl rfl))
    |cons e r =>
     dsimp only
     split
     ·unfold j8
      cases r with
      |nil=>exact .inr (.inr (.inl rfl))
      |cons f r =>
       dsimp only
       split
       ·exact .inr (.inr (.inr (.inr (.inl rfl))))
       ·exact .inr (.inr (.inl rfl))
     ·exact .inr (.inr (.inl rfl))
   ·exact .inr (.inr (.inl rfl))
 ·exact .inr (.inr (.inl rfl))
theorem YK(c:Nat)(r:List Nat)(h:¬((one c r).1=gm\/(one c r).1=gn)):rv c r=(one c r).2.1:=by
 unfold rv;rw[if_neg];rintro(rfl | rfl)
 ·exact h (.inl rfl)
 ·exact h (.inr rfl)
theorem JC(m:Option D)(O:aq):∀(n:Nat) (t:List Nat) (i g:List Nat) (acc:List D) (l j d:Option D),acc.length+n<=100000 ->
  (b8 gS bS (lrf n t) [m,some (.lst acc),some (.str i),some (.str g),l,j,d] O=.rt .non O/\shF (kvf n t) i g acc=none) \/
  ∃B g' a y x u,b8 gS bS (lrf n t) [m,some (.lst acc),some (.str i),some (.str g),l,j,d] O=.nx [m,some (.lst a),some (.str B),some (.str g'),y,x,u] O/\shF (kvf n t) i g acc=shF [] B g' a
 | 0,t,i,g,acc,l,j,d,_=>.inr ⟨i,g,acc,l,j,d,rfl,rfl⟩
 |n+1,[],i,g,acc,l,j,d,_=>.inr ⟨i,g,acc,l,j,d,rfl,rfl⟩
 |n+1,c::r,i,g,acc,l,j,d,hl=>by
  have st:∀f,bS [m,some (.lst acc),some (.str i),some (.str g),some (.str (one c r).1),some (.str (rv c r)),some (.int ((one c r).2.2+1:Nat))] O=f->b8 gS bS (lrf (n+1) (c::r)) [m,some (.lst acc),some (.str i),some (.str g),l,j,d] O=(match f with
    | .nx ρ2 O2=>b8 gS bS (lrf n (r.drop (one c r).2.2)) ρ2 O2
    | .ct ρ2 O2=>b8 gS bS (lrf n (r.drop (one c r).2.2)) ρ2 O2
    | .bk ρ2 O2=>.nx ρ2 O2
    |f=>f):=λf e=>by
   subst e;rfl
  by_cases q:(one c r).1=gm\/(one c r).1=gn
  ·refine .inl ⟨st _ (YG q _ _ _ _ _ _ O),?_⟩;show(if(one c r).1=gm\/(one c r).1=gn then none else _)=_;rw[if_pos q]
  ·have ll:=Yt (one c r).1 (rv c r) i g acc;have e:=st _ (YH q (YJ c r) (rv c r) i g acc (by omega) m _ O);have C:=qw q (kvf n (r.drop (one c r).2.2)) (v:=(one c r).2.1) i g acc;rw[e];show _\/∃B g' a y x u,_/\shF (((one c r).1,(one c r).2.1)::kvf n (r.drop (one c r).2.2)) i g acc=_;rw[show shF (kvf (n+1) (c::r)) i g acc=shF (((one c r).1,(one c r).2.1)::kvf n (r.drop (one c r).2.2)) i g acc from rfl,C,<-YK c r q];exact JC m O n _ _ _ _ _ _ _ (by omega)
theorem YL(n:Nat)(t:List Nat)(B:n<=5000)(O:aq):uz [.lst (lrf n t)] O=.ok (Ys (shF (kvf n t) [46] [46] [])) O:=by
 show bh (uy [some (.lst (lrf n t)),none,none,none,none,none,none] O)=_;unfold uy
 rw[gY (show aH 1 (bA au) [some (.lst (lrf n t)),none,none,none,none,none,none] O=.nx [some (.lst (lrf n t)),some (.lst []),none,none,none,none,none] O from rfl),
  gY (show aH 2 (mC (.str [46])) [some (.lst (lrf n t)),some (.lst []),none,none,none,none,none] O=.nx [some (.lst (lrf n t)),some (.lst []),some (.str [46]),none,none,none,none] O from rfl),
  gY (show aH 3 (mC (.str [46])) [some (.lst (lrf n t)),some (.lst []),some (.str [46]),none,none,none,none] O=.nx [some (.lst (lrf n t)),some (.lst []),some (.str [46]),some (.str [46]),none,none,none] O from rfl)]
 have u:∀f,b8 gS bS (lrf n t) [some (.lst (lrf n t)),some (.lst []),some (.str [46]),some (.str [46]),none,none,none] O=f->dq (cJ (aa 0)) gS bS [some (.lst (lrf n t)),some (.lst []),some (.str [46]),some (.str [46]),none,none,none] O=f:=λf e=>(W0 (show cJ (aa 0) _ O=.ok (lrf n t) O from rfl)).trans e
 show bh (aC (dq (cJ (aa 0)) gS bS) (aC (bc (cO (aB (aj gNe (aa 2) (mC (.str [46])))) (aB (aj gNe (aa 3) (mC (.str [46]))))) (aZ (mG (mC .non))) bz) (aZ (aa 1))) [some (.lst (lrf n t)),some (.lst []),some (.str [46]),some (.str [46]),none,none,none] O)=_
 rcases JC (some (.lst (lrf n t))) O n t [46] [46] [] none none none (by rw[zT];omega) with⟨q,m⟩ | ⟨c,d,a,l,j,g,q,m⟩
 ·rw[xB (u _ q),m];rfl
 ·rw[gY (u _ q),m];have t1:aB (aj gNe (aa 2) (mC (.str [46]))) [some (.lst (lrf n t)),some (.lst a),some (.str c),some (.str d),l,j,g] O=.ok (!decide (c=[46])) O:=dB (bf (x:=.str c) (y:=.str [46]) rfl rfl rfl);have t2:aB (aj gNe (aa 3) (mC (.str [46]))) [some (.lst (lrf n t)),some (.lst a),some (.str c),some (.str d),l,j,g] O=.ok (!decide (d=[46])) O:=dB (bf (x:=.str d) (y:=.str [46]) rfl rfl rfl);have r:shF [] c d a=if c=[46]/\d=[46] then some a else none:=rfl;rw[r]
  by_cases h1:c=[46]
  ·by_cases h2:d=[46]
   ·rw[if_pos ⟨h1,h2⟩,gY (show bc (cO (aB (aj gNe (aa 2) (mC (.str [46])))) (aB (aj gNe (aa 3) (mC (.str [46]))))) (aZ (mG (mC .non))) bz [some (.lst (lrf n t)),some (.lst a),some (.str c),some (.str d),l,j,g] O=.nx [some (.lst (lrf n t)),some (.lst a),some (.str c),some (.str d),l,j,g] O from if_no (by rw[j7,t1,aR,zj h1,t2,zj h2];rfl))];rfl
   ·rw[if_neg (λz=>h2 z.2),xB (show bc (cO (aB (aj gNe (aa 2) (mC (.str [46])))) (aB (aj gNe (aa 3) (mC (.str [46]))))) (aZ (mG (mC .non))) bz [some (.lst (lrf n t)),some (.lst a),some (.str c),some (.str d),l,j,g] O=.rt .non O from(ir (by rw[j7,t1,aR,zj h1,t2,ze h2];rfl)).trans rfl)];rfl
  ·rw[if_neg (λz=>h1 z.1),xB (show bc (cO (aB (aj gNe (aa 2) (mC (.str [46])))) (aB (aj gNe (aa 3) (mC (.str [46]))))) (aZ (mG (mC .non))) bz [some (.lst (lrf n t)),some (.lst a),some (.str c),some (.str d),l,j,g] O=.rt .non O from(ir (by rw[j7,t1,aR,ze h1];rfl)).trans rfl)];rfl
theorem sq{a b:MS}{ρ c:aA}{O d:aq}(h:a ρ O=.nx c d):aC a b ρ O=b c d:=by
 rw[gk,h,nu]
theorem iV{i:Nat}{m:L2.M D}{ρ:aA}{O a:aq}{d:D}(h:m ρ O=.ok d a):aH i m ρ O=.nx (ρ.set i (some d)) a:=by
 rw[Hv,h,Hw]
abbrev Nd:=Int×(Nat×Nat)
def dN(n:Nd):D:=.tup [.int n.1,pr n.2]
def key(n:Nd):NK:=(n.1,[.inr (S [n.2.1]),.inr (S [n.2.2])])
theorem uL(n:Nd):pP (dN n)=some (key n):=rfl
theorem lA{a b:Nat}(h:S [a]=S [b]):a=b:=by
 have:=Ju [a] [b]
 rw[h,beq_self_eq_true] at this;have q:=zU this.symm
 injection q
theorem qz{a b:Nd}:key a=key b↔a=b:=by
 constructor
 ·intro h;have h1:=congrArg Prod.fst h;have h2:=congrArg Prod.snd h;have h2':[Sum.inr (S [a.2.1]),Sum.inr (S [a.2.2])]=([Sum.inr (S [b.2.1]),Sum.inr (S [b.2.2])]:List Key):=h2
  injection h2' with d c
  injection d with d
  injection c with c _
  injection c with c
  exact Prod.ext h1 (Prod.ext (lA d) (lA c))
 ·intro h;rw[h]
structure M3 where
 cost:Int
 name:List Nat
 other:Nd
def d3(m:M3):D:=.tup [.int m.cost,.str m.name,dN m.other]
def pD:Option Int->D
 |none=>.non
 |some i=>.int i
abbrev Tb:=List (Nd×Option Int)
def tab(ps:Tb):List (NK×D):=ps.map λx=>(key x.1,pD x.2)
def lk(ps:Tb)(n:Nd):Option (Option Int):=(ps.find? λx=>decide (x.1=n)).map (·.2)
def put(ps:Tb)(n:Nd)(v:Option Int):Tb:=if(ps.any λx=>decide (x.1=n))=true then ps.map (λx=>if x.1=n then(x.1,v) else x) else ps++[(n,v)]
theorem JD(n:Nd):∀ps:Tb,valN (tab ps) (key n)=(lk ps n).map pD
 | []=>rfl
 |x::ps=>by
  have a:=JD n ps;unfold valN lk tab at *;rw[zd,List.find?_cons,List.find?_cons]
  by_cases h:x.1=n
  ·simp[h]
  ·have h':¬key x.1=key n:=λz=>h (qz.mp z)
   simp only[h,h',decide_false];exact a
theorem JF(n:Nd):∀ps:Tb,((tab ps).any λp=>decide (p.1=key n))=ps.any λx=>decide (x.1=n)
 | []=>rfl
 |x::ps=>by
  have a:=JF n ps;unfold tab at *;rw[zd,List.any_cons,List.any_cons,a];congr 1;exact decide_eq_decide.mpr qz
theorem YM(ps:Tb)(n:Nd)(v:Option Int):putN (tab ps) (key n) (pD v)=tab (put ps n v):=by
 unfold putN put;rw[JF]
 split
 ·unfold tab;rw[zL,zL]
  refine jo λx _=>?_
  by_cases h:x.1=n
  ·simp[h]
  ·have h':¬key x.1=key n:=λz=>h (qz.mp z)
   simp[h,h']
 ·unfold tab;rw[zI];rfl
theorem Bt{n:Nd}:∀{ps:Tb},(ps.any λx=>decide (x.1=n))=false->lk ps n=none
 | [],_=>rfl
 |x::ps,h=>by
  rw[List.any_cons,Bool.or_eq_false_iff] at h
  have:=Bt h.2
  unfold lk at *;rw[List.find?_cons,h.1];exact this
theorem oh(x:Nd×Option Int)(ps:Tb)(n:Nd):lk (x::ps) n=if x.1=n then some x.2 else lk ps n:=by
 unfold lk;rw[List.find?_cons]
 by_cases h:x.1=n
 ·simp[h]
 ·simp[h]
theorem JG(n:Nd)(y:Nd×Option Int):∀ps:Tb,lk (ps++[y]) n=if(lk ps n).isSome=true then lk ps n else if y.1=n then some y.2 else none
 | []=>by
  rw[zK,oh];rfl
 |x::ps=>by
  rw[List.cons_append,oh,oh,JG n y ps]
  by_cases h:x.1=n
  ·simp[h]
  ·simp[h]
theorem JH(n m:Nd)(v:Option Int):∀ps:Tb,lk (ps.map λx=>if x.1=n then(x.1,v) else x) m=if m=n then(lk ps m).map λ_=>v else lk ps m
 | []=>by simp[lk]
 |x::ps=>by
  rw[zd,oh,oh,JH n m v ps]
  by_cases h:x.1=n
  ·by_cases c:m=n
   ·subst c;simp[h]
   ·have:¬n=m:=λz=>c z.symm
    simp[h,c,this]
  ·by_cases a:x.1=m
   ·have:¬m=n:=λz=>h (a.trans z)
    simp[h,a,this]
   ·simp[h,a]
theorem JK{n:Nd}:∀{ps:Tb},(ps.any λx=>decide (x.1=n))=true->(lk ps n).isSome=true
 |x::ps,h=>by
  rw[oh]
  by_cases a:x.1=n
  ·simp[a]
  ·rw[if_neg a];rw[List.any_cons,ze a,Bool.false_or] at h;exact JK h
theorem JL(ps:Tb)(n m:Nd)(v:Option Int):lk (put ps n v) m=if m=n then some v else lk ps m:=by
 unfold put
 split
 ·rename_i h;rw[JH]
  split
  ·rename_i a;subst a
   have:=JK h
   cases e:lk ps m with
   |none=>rw[e] at this;cases this
   |some w=>rfl
  ·rfl
 ·rename_i h;have h0:=Bt (Bool.eq_false_iff.mpr h);rw[JG]
  by_cases a:m=n
  ·subst a;simp[h0]
  ·have:¬n=m:=λz=>a z.symm
   simp[a,this]
   cases lk ps m<;>simp
theorem YQ(ps:Tb)(n:Nd)(v:Option Int):(put ps n v).length<=ps.length+1:=by
 unfold put
 split
 ·rw[zf];omega
 ·rw[zn];exact zc _
theorem YS{ps:Tb}{n:Nd}{v:Option Int}(h:(lk ps n).isSome=true):(put ps n v).length=ps.length:=by
 unfold put
 split
 ·rw[zf]
 ·rename_i a;rw[Bt (Bool.eq_false_iff.mpr a)] at h;cases h
theorem Bu{c a:L2.M D}{ρ:aA}{O:aq}{p:Nat}{ps:Tb}{n:Nd}{v:Option Int}(h1:c ρ O=.ok (.ob p) O)(h2:O[p]?=some (.dn (tab ps)))(h3:a ρ O=.ok (dN n) O)(h4:lk ps n=some v):du c a ρ O=.ok (pD v) O:=by
 unfold du;rw[h1];dsimp only[aR];rw[h3];dsimp only[aR];unfold nsG;rw[uL,h2];dsimp only;rw[JD,h4];rfl
theorem YT{c a:L2.M D}{ρ:aA}{O:aq}{q:Nat}{kvs:List (NK×D)}{n:Nd}{d:D}(h1:c ρ O=.ok (.ob q) O)(h2:O[q]?=some (.nf kvs))(h3:a ρ O=.ok (dN n) O)(h4:valN kvs (key n)=some d):du c a ρ O=.ok d O:=by
 unfold du;rw[h1];dsimp only[aR];rw[h3];dsimp only[aR];unfold nsG;rw[uL,h2];dsimp only;rw[h4]
theorem JM{d a c:L2.M D}{ρ:aA}{O:aq}{p:Nat}{ps:Tb}{n:Nd}{v:Option Int}(h0:c ρ O=.ok (pD v) O)(h1:d ρ O=.ok (.ob p) O)(h2:O[p]?=some (.dn (tab ps)))(h3:a ρ O=.ok (dN n) O)(f:ps.length<1000000):fU d a c ρ O=.nx ρ (O.set p (.dn (tab (put ps n v)))):=by
 unfold fU;rw[h0];dsimp only;rw[h1];dsimp only;rw[h3];dsimp only;rw[uL,h2];dsimp only;rw[if_pos (by unfold tab;rw[zf];exact f),YM]
def co(ps:Tb)(m:M3):Option Int:=match lk ps m.other with
 |some (some b)=>some (m.cost+b)
 | _=>none
def lc(ps:Tb)(ms:List M3):Option Int:=mdI none (ms.filterMap (co ps))
theorem JN{O:aq}{p:Nat}{ps:Tb}{m:M3}(d:O[p]?=some (.dn (tab ps)))(f:(lk ps m.other).isSome=true):jG [d3 m,.ob p] O=.ok (pD (co ps m)) O:=by
 obtain⟨v,a⟩:=Option.isSome_iff_exists.mp f;have c:du (mG (aa 1)) (aj gIx (aa 0) (mC (.int 2))) [some (d3 m),some (.ob p),none] O=.ok (pD v) O:=Bu rfl d (bf rfl rfl rfl) a;show bh (sX [some (d3 m),some (.ob p),none] O)=_;unfold sX;rw[sq (bU c),dW];unfold co;rw[a]
 cases v with
 |none=>rfl
 |some b=>rfl
theorem ints_map:∀a:List Int,gQ (a.map D.int)=some a
 | []=>rfl
 |i::a=>by
  show(gQ (a.map D.int)).map (i :: ·)=_;rw[ints_map a];rfl
theorem JP(ps:Tb):∀ms:List M3,(ms.map λm=>pD (co ps m)).filter (λd=>!isNon d)=(ms.filterMap (co ps)).map D.int
 | []=>rfl
 |m::ms=>by
  rw[zd,List.filter_cons,List.filterMap_cons,JP ps ms]
  cases co ps m<;>rfl
theorem JQ{O:aq}{p:Nat}{ps:Tb}{ms:List M3}(j:O[p]?=some (.dn (tab ps)))(l:∀m∈ms,(lk ps m.other).isSome=true)(u:ms.length<=1000):lX [.lst (ms.map d3),.ob p] O=.ok (pD (lc ps ms)) O:=by
 have q:cX (mgN 0) fM (aG jG (ak (aa 0) (ak (aa 1) au))) (ms.map d3) [none,some (.ob p)] O []=.ok (ms.map λm=>pD (co ps m)) O:=by
  rw[nA (λρ=>∃a,ρ=[a,some (.ob p)]) d3 (λm=>pD (co ps m)) ms _ _ _ ⟨none,rfl⟩ (by
   rintro m hm' ρ ⟨a,rfl⟩
   exact⟨_,rfl,⟨_,rfl⟩,rfl,(cg (maS rfl (ma1 rfl))).trans (JN j (l m hm'))⟩)]
  rw[zK]
 have g:dJ (cJ (aa 0)) 1 [1] (mgN 0) fM (aG jG (ak (aa 0) (ak (aa 1) au))) [some (.lst (ms.map d3)),some (.ob p),none] O=.ok (.lst (ms.map λm=>pD (co ps m))) O:=kI (iw rfl) (by rw[zf];omega) rfl q
 have n:cX (mgN 0) (aB (gH (aa 0))) (aa 0) (ms.map λm=>pD (co ps m)) [none] O []=.ok ((ms.filterMap (co ps)).map D.int) O:=by
  rw[HF (λρ=>∃a,ρ=[a]) (λd=>!isNon d) _ _ _ _ ⟨none,rfl⟩ (by
   rintro d hd ρ ⟨a,rfl⟩
   exact⟨_,rfl,⟨_,rfl⟩,rfl,rfl⟩)]
  rw[zK,JP]
 have f:dJ (cJ (aa 2)) 1 [] (mgN 0) (aB (gH (aa 0))) (aa 0) [some (.lst (ms.map d3)),some (.ob p),some (.lst (ms.map λm=>pD (co ps m)))] O=.ok (.lst ((ms.filterMap (co ps)).map D.int)) O:=kI (iw rfl) (by rw[zf];omega) rfl n
 have c:bK rP (ak (dJ (cJ (aa 2)) 1 [] (mgN 0) (aB (gH (aa 0))) (aa 0)) au) [some (.lst (ms.map d3)),some (.ob p),some (.lst (ms.map λm=>pD (co ps m)))] O=.ok (pD (lc ps ms)) O:=km (ma1 f) (by
  show(gQ ((ms.filterMap (co ps)).map D.int)).map _=_;rw[ints_map];show some (match mdI none (ms.filterMap (co ps)) with | some m=>D.int m | none=>D.non)=some (pD (mdI none (ms.filterMap (co ps))))
  cases mdI none (ms.filterMap (co ps))<;>rfl)
 show bh (sY [some (.lst (ms.map d3)),some (.ob p),none] O)=_;unfold sY;rw[sq (bU g),dW];exact congrArg (λr=>bh (lR r)) c
theorem JR{ps a:Tb}:∀{ms:List M3},(∀m∈ms,lk a m.other=lk ps m.other)->ms.filterMap (co a)=ms.filterMap (co ps)
 | [],_=>rfl
 |m::ms,h=>by
  have e:co a m=co ps m:=by
   unfold co;rw[h m zg]
  rw[List.filterMap_cons,List.filterMap_cons,e,JR λx c=>h x (zq _ c)]
theorem uM{ps a:Tb}{ms:List M3}(h:∀m∈ms,lk a m.other=lk ps m.other):lc a ms=lc ps ms:=by
 unfold lc;rw[JR h]
structure Trl(t:Nat)(fs:List (Str×D))(N:Nat)(nodes:Nat->List Nd)(mv:Nd->List M3)(fin:Nd->Bool):Prop where
 na:∀(O:aq) (a:Nat),O[t]?=some (.ins "Leaps" fs)->a<=N->j9 [.ob t,.int a] O=.ok (.lst ((nodes a).map dN)) O
 mf:∀(O:aq) (a:Nat) (n:Nd),O[t]?=some (.ins "Leaps" fs)->a<=N->n∈nodes a->iQ [.ob t,dN n] O=.ok (.lst ((mv n).map d3)) O
 ie:∀(O:aq) (a:Nat) (n:Nd),O[t]?=some (.ins "Leaps" fs)->a<=N->n∈nodes a->iR [.ob t,dN n] O=.ok (.bl (fin n)) O
 la:∀O:aq,O[t]?=some (.ins "Leaps" fs)->eX [.ob t] O=.ok (.int N) O
 fi:∀O:aq,O[t]?=some (.ins "Leaps" fs)->tX [.ob t] O=.ok (dN (0,(46,46))) O
 f0:((0,(46,46)):Nd)∈nodes 0
 nd:∀a,(nodes a).Nodup
 ln:∀a,(nodes a).length<=10
 fw:∀(a:Nat) (n:Nd),a<=N->n∈nodes a->∀m∈mv n,∃b,a<b/\b<=N/\m.other∈nodes b
 sp:∀(a b:Nat) (n:Nd),n∈nodes a->n∈nodes b->a=b
 ml:∀n,(mv n).length<=1000
 fe:∀n,fin n=true->mv n=[]
 u1:(fs.lookup ("nodes_at":Str)).isNone=true
 u2:(fs.lookup ("moves_from":Str)).isNone=true
 u3:(fs.lookup ("is_end":Str)).isNone=true
 u4:(fs.lookup ("last_at":Str)).isNone=true
 u5:(fs.lookup ("first_node":Str)).isNone=true
 hN:N<=1000
def cu(a:Nd->List M3)(ns:List Nd):List (NK×D):=ns.map λn=>(key n,D.lst ((a n).map d3))
theorem JS(a:Nd->List M3)(n:Nd):∀ns:List Nd,((cu a ns).any λp=>decide (p.1=key n))=decide (n∈ns)
 | []=>rfl
 |x::ns=>by
  have c:=JS a n ns;unfold cu at *;rw[zd,List.any_cons,c]
  by_cases h:x=n
  ·subst h;simp
  ·have h1:¬key x=key n:=λz=>h (qz.mp z)
   have h2:¬n=x:=λz=>h z.symm
   simp[h1,h2]
theorem YW{a:Nd->List M3}{ns:List Nd}{n:Nd}(h:n∉ns):putN (cu a ns) (key n) (.lst ((a n).map d3))=cu a (ns++[n]):=by
 unfold putN;rw[JS,ze h,if_neg zh];unfold cu;rw[zI];rfl
theorem JT(a:Nd->List M3)(n:Nd):∀ns:List Nd,n∈ns->valN (cu a ns) (key n)=some (.lst ((a n).map d3))
 |x::ns,h=>by
  unfold valN cu;rw[zd,List.find?_cons]
  by_cases c:x=n
  ·subst c;simp
  ·have h1:¬key x=key n:=λz=>c (qz.mp z)
   simp only[h1,decide_false]
   rcases zp.mp h with rfl | h
   ·exact absurd rfl c
   ·exact JT a n ns h
theorem YX(a:Nd->List M3)(ns:List Nd):(cu a ns).map Hj=ns.map dN:=by
 unfold cu;rw[zL];rfl
def B_1:MS:=(aC (fU (aa 3) (aa 4) (bO "Leaps" "moves_from" iQ (mG (aa 0)) (ak (aa 4) au)))
  (fU (mG (aa 2)) (aa 4) (mIf (cW (bO "Leaps" "is_end" iR (mG (aa 0)) (ak (aa 4) au))) (mC (.int 0)) (mC .non))))
def ini(a:Nd->Bool)(n:Nd):Option Int:=if a n=true then some 0 else none
theorem qC{O:aq}{i j:Nat}{x y:Ob}(h1:O[i]?=some x)(h2:O[j]?=some y)(h:x≠y):i≠j:=λz=>by
 rw[z,h2] at h1;exact h (zz h1).symm
theorem qD{O:aq}{i:Nat}{x y:Ob}(e:O[i]?=some x):(O.set i y)[i]?=some y:=by
 obtain⟨h,_⟩:=zr.mp e;simp[h]
section
variable {t:Nat}{fs:List (Str×D)}{N:Nat}{nodes:Nat->List Nd}{mv:Nd->List M3}{fin:Nd->Bool}{p q:Nat}
theorem YZ(T:Trl t fs N nodes mv fin){a:Nat}(B:a<=N){n:Nd}(y:n∈nodes a){pre:List Nd}(m:n∉pre){O:aq}{f:Tb}(g:O[t]?=some (.ins "Leaps" fs))(x:O[p]?=some (.dn (tab f)))(u:O[q]?=some (.dn (cu mv pre)))(j:p≠q)(F:f.length<1000000)(r:pre.length<1000000)(d c:Option D):
  B_1 [some (.ob t),some (.int a),some (.ob p),some (.ob q),some (dN n),d,c] O=.nx [some (.ob t),some (.int a),some (.ob p),some (.ob q),some (dN n),d,c] ((O.set q (.dn (cu mv (pre++[n])))).set p (.dn (tab (put f n (ini fin n))))):=by
 have C:t≠q:=qC g u (λz=>nomatch z);have J:t≠p:=qC g x (λz=>nomatch z);have I:bO "Leaps" "moves_from" iQ (mG (aa 0)) (ak (aa 4) au) [some (.ob t),some (.int a),some (.ob p),some (.ob q),some (dN n),d,c] O=.ok (.lst ((mv n).map d3)) O:=(iu rfl g T.u2 (ma1 rfl)).trans (T.mf O a n g B y)
 have E:fU (aa 3) (aa 4) (bO "Leaps" "moves_from" iQ (mG (aa 0)) (ak (aa 4) au)) [some (.ob t),some (.int a),some (.ob p),some (.ob q),some (dN n),d,c] O=.nx [some (.ob t),some (.int a),some (.ob p),some (.ob q),some (dN n),d,c] (O.set q (.dn (cu mv (pre++[n])))):=by
  unfold fU;rw[I];dsimp only;rw[show(aa 3) [some (.ob t),some (.int a),some (.ob p),some (.ob q),some (dN n),d,c] O=.ok (.ob q) O from rfl];dsimp only;rw[show(aa 4) [some (.ob t),some (.int a),some (.ob p),some (.ob q),some (dN n),d,c] O=.ok (dN n) O from rfl];dsimp only;rw[uL,u];dsimp only;rw[if_pos (by unfold cu;rw[zf];exact r),YW m]
 have ht':(O.set q (.dn (cu mv (pre++[n]))))[t]?=some (.ins "Leaps" fs):=by rw[zt (Ne.symm C)];exact g
 have l:(O.set q (.dn (cu mv (pre++[n]))))[p]?=some (.dn (tab f)):=by rw[zt (Ne.symm j)];exact x
 have H:bO "Leaps" "is_end" iR (mG (aa 0)) (ak (aa 4) au) [some (.ob t),some (.int a),some (.ob p),some (.ob q),some (dN n),d,c] (O.set q (.dn (cu mv (pre++[n]))))=.ok (.bl (fin n)) (O.set q (.dn (cu mv (pre++[n])))):=(iu rfl ht' T.u3 (ma1 rfl)).trans (T.ie _ a n ht' B y)
 have G:mIf (cW (bO "Leaps" "is_end" iR (mG (aa 0)) (ak (aa 4) au))) (mC (.int 0)) (mC .non) [some (.ob t),some (.int a),some (.ob p),some (.ob q),some (dN n),d,c] (O.set q (.dn (cu mv (pre++[n]))))=.ok (pD (ini fin n)) (O.set q (.dn (cu mv (pre++[n])))):=by
  rw[nj,w6,H,aR,Hk,Hq,Ho,aR];unfold ini
  cases fin n<;>rfl
 unfold B_1;rw[sq E];exact JM G rfl l rfl F
theorem JV(T:Trl t fs N nodes mv fin){a:Nat}(H:a<=N)(g:p≠q)(x u:Option D):∀(rest pre:List Nd) (O:aq) (c:Tb) (y:Option D),(∀n∈rest,n∈nodes a)->(pre++rest).Nodup->O[t]?=some (.ins "Leaps" fs)->O[p]?=some (.dn (tab c))->O[q]?=some (.dn (cu mv pre))->c.length+rest.length<1000000->pre.length+rest.length<1000000 ->
  ∃f d l,b8 (mgN 4) B_1 (rest.map dN) [some (.ob t),some (.int a),some (.ob p),some (.ob q),y,x,u] O=.nx [some (.ob t),some (.int a),some (.ob p),some (.ob q),l,x,u] f/\f[p]?=some (.dn (tab d))/\f[q]?=some (.dn (cu mv (pre++rest)))/\(∀j,j≠p->j≠q->f[j]?=O[j]?)/\(∀n,lk d n=if n∈rest then some (ini fin n) else lk c n)/\d.length<=c.length+rest.length
 | [],pre,O,c,y,_,_,_,hp,hq,_,_=>⟨O,c,y,rfl,hp,by rw[zX];exact hq,λ_ _ _=>rfl,λn=>by simp,zc _⟩
 |n::rest,pre,O,c,y,hr,hd,ht,hp,hq,hl,hl2=>by
  rw[zv] at hl hl2;have L:=hr n zg
  have E:n∉pre:=λz=>(jg.mp hd).2.2 n z n zg rfl
  have C:n∉rest:=λz=>(List.nodup_cons.mp (jg.mp hd).2.1).1 z
  have P:=YZ T H L E ht hp hq g (by omega) (by omega) x u;have I:t≠q:=qC ht hq (λz=>nomatch z);have J:t≠p:=qC ht hp (λz=>nomatch z);have Q:=YQ c n (ini fin n);obtain⟨f,d,l,e,h1,h2,h3,h4,R⟩:=JV T H g x u rest (pre++[n]) ((O.set q (.dn (cu mv (pre++[n])))).set p (.dn (tab (put c n (ini fin n))))) (put c n (ini fin n)) (some (dN n)) (λm B=>hr m (zq _ B)) (by rw[zE];exact hd)
   (by rw[zt (Ne.symm J),zt (Ne.symm I)];exact ht) (qD (by rw[zt (Ne.symm g)];exact hp)) (by rw[zt g];exact qD hq) (by omega) (by rw[zn,jd];omega)
  refine⟨f,d,l,?_,h1,by rw[zE] at h2;exact h2,λj G F=>?_,λm=>?_,by rw[zv];omega⟩
  ·rw[zd];unfold b8;rw[mg_n];dsimp only
   show(match B_1 [some (.ob t),some (.int a),some (.ob p),some (.ob q),some (dN n),x,u] O with
    | .nx ρ' f=>b8 _ _ (rest.map dN) ρ' f | .ct ρ' f=>b8 _ _ (rest.map dN) ρ' f | .bk ρ' f=>Fl.nx ρ' f | r=>r)=_
   rw[P];exact e
  ·rw[h3 j G F,zt (Ne.symm G),zt (Ne.symm F)]
  ·rw[h4 m,JL]
   by_cases B:m=n
   ·subst B;simp[C]
   ·simp[B]
end
def B_r:MS:=(aC (aH 6 (aG lX (ak (du (aa 3) (aa 4)) (ak (aa 2) au))))
  (bc (b7 (aB (gH (aa 6))) (cO (aB (iC (du (mG (aa 2)) (aa 4)))) (aB (aj gLt (aa 6) (du (mG (aa 2)) (aa 4)))))) (aC (fU (mG (aa 2)) (aa 4) (aa 6))
  (aH 5 (mC (.bl true)))) bz))
def better(v L:Option Int):Bool:=match L with
 |none=>false
 |some c=>match v with
  |none=>true
  |some w=>decide (c<w)
section
variable {t:Nat}{fs:List (Str×D)}{N:Nat}{nodes:Nat->List Nd}{mv:Nd->List M3}{fin:Nd->Bool}{p q:Nat}
theorem Y0{ns:List Nd}{n:Nd}(H:n∈ns){O:aq}{a:Tb}{v:Option Int}(u:O[p]?=some (.dn (tab a)))(G:O[q]?=some (.nf (cu mv ns)))(hv:lk a n=some v)(I:∀m∈mv n,(lk a m.other).isSome=true)(y:(mv n).length<=1000)(J:a.length<1000000)(b:Bool)(d a1 r:Option D):
  B_r [d,a1,some (.ob p),some (.ob q),some (dN n),some (.bl b),r] O=.nx [d,a1,some (.ob p),some (.ob q),some (dN n),some (.bl (b || better v (lc a (mv n)))),some (pD (lc a (mv n)))] (if better v (lc a (mv n))=true then O.set p (.dn (tab (put a n (lc a (mv n))))) else O):=by
 have F:du (aa 3) (aa 4) [d,a1,some (.ob p),some (.ob q),some (dN n),some (.bl b),r] O=.ok (.lst ((mv n).map d3)) O:=YT rfl G rfl (JT mv n ns H);have E:aG lX (ak (du (aa 3) (aa 4)) (ak (aa 2) au)) [d,a1,some (.ob p),some (.ob q),some (dN n),some (.bl b),r] O=.ok (pD (lc a (mv n))) O:=(cg (maS F (ma1 rfl))).trans (JQ u I y)
 have C:∀g:Option D,du (mG (aa 2)) (aa 4) [d,a1,some (.ob p),some (.ob q),some (dN n),some (.bl b),g] O=.ok (pD v) O:=λg=>Bu rfl u rfl hv
 unfold B_r;rw[sq (bU E)];show bc _ _ _ [d,a1,some (.ob p),some (.ob q),some (dN n),some (.bl b),some (pD (lc a (mv n)))] O=_
 cases hL:lc a (mv n) with
 |none =>
  refine(if_no ?_).trans ?_
  ·rw[eV];rfl
  ·show Fl.nx _ O=_;simp[better]
 |some c =>
  have f:(aC (fU (mG (aa 2)) (aa 4) (aa 6)) (aH 5 (mC (.bl true)))) [d,a1,some (.ob p),some (.ob q),some (dN n),some (.bl b),some (pD (some c))] O=.nx [d,a1,some (.ob p),some (.ob q),some (dN n),some (.bl true),some (pD (some c))] (O.set p (.dn (tab (put a n (some c))))):=by
   rw[sq (JM (v:=some c) rfl rfl u rfl J)];rfl
  have B:aB (gH (aa 6)) [d,a1,some (.ob p),some (.ob q),some (dN n),some (.bl b),some (pD (some c))] O=.ok true O:=rfl
  have tB:aB (iC (du (mG (aa 2)) (aa 4))) [d,a1,some (.ob p),some (.ob q),some (dN n),some (.bl b),some (pD (some c))] O=.ok (isNon (pD v)) O:=by
   rw[Hn,V9,C,aR,aR,Hm]
  cases v with
  |none =>
   refine(ir ?_).trans ?_
   ·rw[eV,B,aR,if_pos rfl,j7,tB,aR];rfl
   ·rw[f];simp[better]
  |some w =>
   have tC:aB (aj gLt (aa 6) (du (mG (aa 2)) (aa 4))) [d,a1,some (.ob p),some (.ob q),some (dN n),some (.bl b),some (pD (some c))] O=.ok (decide (c<w)) O:=dB (bf (x:=.int c) rfl (C _) rfl)
   have j:b7 (aB (gH (aa 6))) (cO (aB (iC (du (mG (aa 2)) (aa 4)))) (aB (aj gLt (aa 6) (du (mG (aa 2)) (aa 4))))) [d,a1,some (.ob p),some (.ob q),some (dN n),some (.bl b),some (pD (some c))] O=.ok (decide (c<w)) O:=by
    rw[eV,B,aR,if_pos rfl,j7,tB,aR];exact tC
   by_cases l:c<w
   ·rw[zj l] at j;rw[ir j,f];simp[better,l]
   ·rw[ze l] at j;rw[if_no j];show Fl.nx _ O=_;simp[better,l]
def fnl(fin:Nd->Bool)(L:Nd->Option Int)(n:Nd):Option Int:=if fin n=true then some 0 else L n
theorem Y4{fin:Nd->Bool}{L:Nd->Option Int}{n:Nd}{v:Option Int}(a:fin n=true->L n=none)(hv:v=ini fin n\/v=fnl fin L n):(if better v (L n)=true then L n else v)=fnl fin L n:=by
 unfold fnl ini at *
 cases h:fin n with
 |true =>
  have:=a h
  rw[this];rw[h] at hv
  rcases hv with rfl | rfl<;>rfl
 |false =>
  rw[h] at hv
  rcases hv with rfl | rfl
  ·cases L n<;>rfl
  ·simp only[Bool.false_eq_true,if_false]
   split<;>rfl
theorem Y5{fin:Nd->Bool}{L:Nd->Option Int}{n:Nd}(a:fin n=true->L n=none):better (fnl fin L n) (L n)=false:=by
 unfold fnl
 cases h:fin n with
 |true =>
  rw[a h];rfl
 |false =>
  simp only[Bool.false_eq_true,if_false]
  cases L n with
  |none=>rfl
  |some c=>simp[better]
theorem JW(T:Trl t fs N nodes mv fin){a:Nat}(X:a<=N){base:Tb}(W:∀n∈nodes a,∀m∈mv n,(lk base m.other).isSome=true)(st:Nd->Option Int)(I:∀n∈nodes a,st n=ini fin n\/st n=fnl fin (λn=>lc base (mv n)) n)(C a1:Option D):
  ∀(rest:List Nd) (O:aq) (c:Tb) (b:Bool) (F B:Option D),(∀n∈rest,n∈nodes a)->rest.Nodup->O[p]?=some (.dn (tab c))->O[q]?=some (.nf (cu mv (nodes a)))->p≠q->(∀m,m∉nodes a->lk c m=lk base m)->(∀n∈rest,lk c n=some (st n))->c.length<1000000 ->
  ∃l d x u,b8 (mgN 4) B_r (rest.map dN) [C,a1,some (.ob p),some (.ob q),F,some (.bl b),B] O=.nx [C,a1,some (.ob p),some (.ob q),x,some (.bl (b || rest.any λn=>better (st n) (lc base (mv n)))),u] l/\l[p]?=some (.dn (tab d))/\(∀j,j≠p->l[j]?=O[j]?)/\(∀m,lk d m=if m∈rest then some (fnl fin (λn=>lc base (mv n)) m) else lk c m)/\d.length<=c.length
 | [],O,c,b,F,B,_,_,hp,_,_,_,_,_=>⟨O,c,F,B,by simp[b8],hp,λ_ _=>rfl,λm=>by simp,zc _⟩
 |n::rest,O,c,b,F,B,hr,hd,hp,hq,hpq,hc,hs,hl=>by
  have G:=hr n zg;have hd':=List.nodup_cons.mp hd
  have J:∀m∈mv n,m.other∉nodes a:=λm g z=>by
   obtain⟨b,b1,b2,b3⟩:=T.fw a n X G m g
   have:=T.sp a b _ z b3
   omega
  have eL:lc c (mv n)=lc base (mv n):=uM λm g=>hc _ (J m g)
  have g:∀m∈mv n,(lk c m.other).isSome=true:=λm g=>by rw[hc _ (J m g)];exact W n G m g
  have Y:=Y0 G hp hq (hs n zg) g (T.ml n) hl b C a1 B;rw[eL] at Y;have Q:=Y4 (L:=λn=>lc base (mv n)) (λh=>by show lc base (mv n)=none;rw[T.fe n h];rfl) (I n G)
  have E:(lk c n).isSome=true:=by rw[hs n zg];rfl
  have go:∀(H:aq) (f:Tb),H[p]?=some (.dn (tab f))->(∀j,j≠p->H[j]?=O[j]?)->(∀m,lk f m=if m=n then some (fnl fin (λn=>lc base (mv n)) n) else lk c m)->f.length<=c.length->(if better (st n) (lc base (mv n))=true then O.set p (.dn (tab (put c n (lc base (mv n))))) else O)=H ->
    ∃l d x u,b8 (mgN 4) B_r ((n::rest).map dN) [C,a1,some (.ob p),some (.ob q),F,some (.bl b),B] O=.nx [C,a1,some (.ob p),some (.ob q),x,some (.bl (b || (n::rest).any λn=>better (st n) (lc base (mv n)))),u] l/\l[p]?=some (.dn (tab d))/\(∀j,j≠p->l[j]?=O[j]?)/\(∀m,lk d m=if m∈n::rest then some (fnl fin (λn=>lc base (mv n)) m) else lk c m)/\d.length<=c.length:=λH f k1 U R k4 Z=>by
   obtain⟨l,d,x,u,e,g1,g2,g3,g4⟩:=JW T X W st I C a1 rest H f (b || better (st n) (lc base (mv n))) (some (dN n)) (some (pD (lc base (mv n)))) (λm g=>hr m (zq _ g)) hd'.2 k1 ((U q (Ne.symm hpq)).trans hq) hpq (λm g=>by
     rw[R m,if_neg (λz:m=n=>g (by rw[z];exact G))]
     exact hc m g) (λm g=>by
     rw[R m,if_neg (λz:m=n=>hd'.1 (by rw[<-z];exact g))]
     exact hs m (zq _ g)) (by omega)
   refine⟨l,d,x,u,?_,g1,λj P=>(g2 j P).trans (U j P),λm=>?_,by omega⟩
   ·rw[zd];unfold b8;rw[mg_n];dsimp only
    show(match B_r [C,a1,some (.ob p),some (.ob q),some (dN n),some (.bl b),B] O with
     | .nx ρ' l=>b8 _ _ (rest.map dN) ρ' l | .ct ρ' l=>b8 _ _ (rest.map dN) ρ' l | .bk ρ' l=>Fl.nx ρ' l | r=>r)=_
    rw[Y,Z];rw[List.any_cons,<-Bool.or_assoc];exact e
   ·rw[g3 m,R m]
    by_cases y:m=n
    ·subst y;simp[hd'.1]
    ·simp[y]
  cases hbt:better (st n) (lc base (mv n)) with
  |true =>
   rw[hbt] at Q;refine go (O.set p (.dn (tab (put c n (lc base (mv n)))))) (put c n (lc base (mv n))) (qD hp) (λj P=>by rw[zt (Ne.symm P)]) (λm=>?_) (Nat.le_of_eq (YS E)) (by rw[hbt];rfl);rw[JL,<-Q];rfl
  |false =>
   rw[hbt] at Q;refine go O c hp (λ_ _=>rfl) (λm=>?_) (zc _) (by rw[hbt];rfl)
   split
   ·rename_i y;rw[y,<-Q];exact hs n zg
   ·rfl
end
def B_n:MS:=(aC (aH 5 (mC (.bl false)))
  (m9 3 (dq (m8 (aa 3)) (mgN 4) B_r)))
section
variable {t:Nat}{fs:List (Str×D)}{N:Nat}{nodes:Nat->List Nd}{mv:Nd->List M3}{fin:Nd->Bool}{p q:Nat}
theorem JX(T:Trl t fs N nodes mv fin){a:Nat}(ha:a<=N){base:Tb}(Z:∀n∈nodes a,∀m∈mv n,(lk base m.other).isSome=true)(st:Nd->Option Int)(G:∀n∈nodes a,st n=ini fin n\/st n=fnl fin (λn=>lc base (mv n)) n)(u a1 B R y:Option D){O:aq}{f:Tb}
  (W:O[p]?=some (.dn (tab f))) (F:O[q]?=some (.dn (cu mv (nodes a)))) (r:p≠q) (L:∀m,m∉nodes a->lk f m=lk base m) (hs:∀n∈nodes a,lk f n=some (st n)) (Y:f.length<1000000):
  ∃x c l g,B_n [u,a1,some (.ob p),some (.ob q),B,R,y] O=.nx [u,a1,some (.ob p),some (.ob q),l,some (.bl ((nodes a).any λn=>better (st n) (lc base (mv n)))),g] x/\x[p]?=some (.dn (tab c))/\x[q]?=some (.dn (cu mv (nodes a)))/\(∀j,j≠p->j≠q->x[j]?=O[j]?)/\(∀m,m∉nodes a->lk c m=lk base m)/\(∀n∈nodes a,lk c n=some (fnl fin (λn=>lc base (mv n)) n))/\c.length<=f.length:=by
 have E:(O.set q (.nf (cu mv (nodes a))))[q]?=some (.nf (cu mv (nodes a))):=qD F
 have H:(O.set q (.nf (cu mv (nodes a))))[p]?=some (.dn (tab f)):=by rw[zt (Ne.symm r)];exact W
 obtain⟨x,c,l,g,e,g1,Q,P,g4⟩:=JW T ha Z st G u a1 (nodes a) (O.set q (.nf (cu mv (nodes a)))) f false B y (λn h=>h) (T.nd a) H E r L hs Y;rw[Bool.false_or] at e;have C:x[q]?=some (.nf (cu mv (nodes a))):=(Q q (Ne.symm r)).trans E;refine⟨x.set q (.dn (cu mv (nodes a))),c,l,g,?_,?_,qD C,λj U I=>?_,λm J=>?_,λn X=>?_,g4⟩
 ·have ek:m8 (aa 3) [u,a1,some (.ob p),some (.ob q),B,some (.bl false),y] O=.ok ((nodes a).map dN) (O.set q (.nf (cu mv (nodes a)))):=by
   unfold m8;rw[show(aa 3) [u,a1,some (.ob p),some (.ob q),B,some (.bl false),y] O=.ok (.ob q) O from rfl];dsimp only[aR];rw[F];dsimp only;rw[YX]
  have ef:dq (m8 (aa 3)) (mgN 4) B_r [u,a1,some (.ob p),some (.ob q),B,some (.bl false),y] O=.nx [u,a1,some (.ob p),some (.ob q),l,some (.bl ((nodes a).any λn=>better (st n) (lc base (mv n)))),g] x:=by
   rw[lU,ek,lV,e]
  unfold B_n;rw[sq (bU (m_c (d:=.bl false)))];show m9 3 _ [u,a1,some (.ob p),some (.ob q),B,some (.bl false),y] O=_;unfold m9;show(match O[q]? with | some (.dn _)=>_ | _=>Fl.no)=_;rw[F];dsimp only;rw[ef];dsimp only;rw[C]
 ·rw[zt (Ne.symm r)];exact g1
 ·rw[zt (Ne.symm I),Q j U,zt (Ne.symm I)]
 ·rw[P m,if_neg J];exact L m J
 ·rw[P n,if_pos X]
theorem uN{t:L2.M Bool}{b:MS}{k:Nat}{ρ a:aA}{O c:aq}(h:t ρ O=.ok true O)(d:b ρ O=.nx a c):dU t b (k+1) ρ O=dU t b k a c:=by
 show(match t ρ O with | .ok true O1=>(match b ρ O1 with | .nx a c=>dU t b k a c | .ct a c=>dU t b k a c | .bk a c=>Fl.nx a c | r=>r) | .ok false O1=>.nx ρ O1 | .ex x O'=>.ex x O' | .no=>.no)=_;rw[h];dsimp only;rw[d]
theorem Bv{t:L2.M Bool}{b:MS}{k:Nat}{ρ:aA}{O:aq}(h:t ρ O=.ok false O):dU t b (k+1) ρ O=.nx ρ O:=by
 show(match t ρ O with | .ok true O1=>(match b ρ O1 with | .nx ρ2 O2=>dU t b k ρ2 O2 | .ct ρ2 O2=>dU t b k ρ2 O2 | .bk ρ2 O2=>Fl.nx ρ2 O2 | r=>r) | .ok false O1=>.nx ρ O1 | .ex x O'=>.ex x O' | .no=>.no)=_;rw[h]
theorem Y6(T:Trl t fs N nodes mv fin){a:Nat}(B:a<=N){O:aq}{f:Tb}(ht:O[t]?=some (.ins "Leaps" fs))(hp:O[p]?=some (.dn (tab f)))(hb:∀n∈nodes a,∀m∈mv n,(lk f m.other).isSome=true)(hl:f.length<900000):
  ∃g c,qb [.ob t,.int a,.ob p] O=.ok .non g/\g[p]?=some (.dn (tab c))/\(∀(j:Nat) (x:Ob),j≠p->O[j]?=some x->g[j]?=some x)/\(∀m,m∉nodes a->lk c m=lk f m)/\(∀n∈nodes a,lk c n=some (fnl fin (λn=>lc f (mv n)) n))/\c.length<=f.length+10:=by
 have hln:=T.ln a;have G:=(zr.mp hp).1;have htl:=(zr.mp ht).1;have y:p≠O.length:=zo G
 have u:(O++[Ob.dn []])[t]?=some (.ins "Leaps" fs):=by rw[zB htl];exact ht
 have hp1:(O++[Ob.dn []])[p]?=some (.dn (tab f)):=by rw[zB G];exact hp
 have hq1:(O++[Ob.dn []])[O.length]?=some (.dn (cu mv [])):=by simp[cu]
 obtain⟨W,cur1,R,e1,f1,f2,f3,f4,f5⟩:=JV T B y none none (nodes a) [] (O++[Ob.dn []]) f none (λn h=>h) (T.nd a) u hp1 hq1 (by omega) (by simp;omega);rw[zK] at f2
 have far:∀n∈nodes a,∀m∈mv n,m.other∉nodes a:=λn Y m Z z=>by
  obtain⟨b,b1,b2,b3⟩:=T.fw a n B Y m Z
  have:=T.sp a b _ z b3
  omega
 have hf:∀n,fin n=true->lc f (mv n)=none:=λn h=>by rw[T.fe n h];rfl
 obtain⟨O2,Q,F,E,U,g1,g2,g3,g4,g5,g6⟩:=JX (base:=f) T B hb (ini fin) (λn _=>.inl rfl) (some (.ob t)) (some (.int a)) R (some (.bl true)) none f1 f2 y (λm Z=>by rw[f4 m,if_neg Z]) (λn Y=>by rw[f4 n,if_pos Y]) (by omega);obtain⟨O3,P,I,H,e3,k1,k2,k3,k4,k5,k6⟩:=JX (base:=f) T B hb (fnl fin λn=>lc f (mv n)) (λn _=>.inr rfl) (some (.ob t)) (some (.int a)) F (some (.bl true)) E g1 g2 y g4 g5 (by omega)
 have z3:((nodes a).any λn=>better (fnl fin (λn=>lc f (mv n)) n) (lc f (mv n)))=false:=by
  rw[List.any_eq_false];intro n _;rw[Y5 (L:=λn=>lc f (mv n)) (hf n)];exact zh
 rw[z3] at e3;have J:pQ [some (.ob t),some (.int a),some (.ob p),none,none,none,none] O=.ok (.ob O.length) (O++[Ob.dn []]):=rfl;have s2:(cJ (bO "Leaps" "nodes_at" j9 (mG (aa 0)) (ak (aa 1) au))) [some (.ob t),some (.int a),some (.ob p),some (.ob O.length),none,none,none] (O++[Ob.dn []])=.ok ((nodes a).map dN) (O++[Ob.dn []]):=iw ((iu rfl u T.u1 (ma1 rfl)).trans (T.na _ a u B))
 have s3:dq (cJ (bO "Leaps" "nodes_at" j9 (mG (aa 0)) (ak (aa 1) au))) (mgN 4) B_1 [some (.ob t),some (.int a),some (.ob p),some (.ob O.length),none,none,none] (O++[Ob.dn []])=.nx [some (.ob t),some (.int a),some (.ob p),some (.ob O.length),R,none,none] W:=by
  rw[lU,s2,lV,e1]
 have C:∀(j:Nat) (x:Ob),j≠p->O[j]?=some x->W[j]?=some x:=λj x r l=>by
  have:=(zr.mp l).1
  rw[f3 j r (by omega),zB this];exact l
 have X:∀(j:Nat) (x:Ob),O[j]?=some x->j≠O.length:=λj x l=>zo (zr.mp l).1
 have fin':∀(g:aq) (c:Tb) (x4 x6:Option D),dU (cW (aa 5)) B_n 10 [some (.ob t),some (.int a),some (.ob p),some (.ob O.length),R,some (.bl true),none] W=.nx [some (.ob t),some (.int a),some (.ob p),some (.ob O.length),x4,some (.bl false),x6] g->g[p]?=some (.dn (tab c))->(∀(j:Nat) (x:Ob),j≠p->O[j]?=some x->g[j]?=some x)->(∀m,m∉nodes a->lk c m=lk f m)->(∀n∈nodes a,lk c n=some (fnl fin (λn=>lc f (mv n)) n))->c.length<=f.length+10 ->
   ∃g c,qb [.ob t,.int a,.ob p] O=.ok .non g/\g[p]?=some (.dn (tab c))/\(∀(j:Nat) (x:Ob),j≠p->O[j]?=some x->g[j]?=some x)/\(∀m,m∉nodes a->lk c m=lk f m)/\(∀n∈nodes a,lk c n=some (fnl fin (λn=>lc f (mv n)) n))/\c.length<=f.length+10:=λg c x4 x6 hw h1 h2 h3 h4 h5=>by
  refine⟨g,c,?_,h1,h2,h3,h4,h5⟩;unfold B_1 at s3;unfold B_n B_r at hw;show bh (tQ [some (.ob t),some (.int a),some (.ob p),none,none,none,none] O)=_;unfold tQ;rw[sq (iV J)];show bh (aC _ _ [some (.ob t),some (.int a),some (.ob p),some (.ob O.length),none,none,none] (O++[Ob.dn []]))=_;rw[sq s3,sq (bU (m_c (d:=.bl true)))];show bh (gK 10 _ _ [some (.ob t),some (.int a),some (.ob p),some (.ob O.length),R,some (.bl true),none] W)=_;unfold gK;rw[hw];rfl
 cases hb1:(nodes a).any λn=>better (ini fin n) (lc f (mv n)) with
 |true =>
  rw[hb1] at U;refine fin' O3 P I H ?_ k1 (λj x r l=>by rw[k3 j r (X j x l),g3 j r (X j x l)];exact C j x r l) k4 k5 (by omega);rw[uN rfl U,uN rfl e3,Bv rfl]
 |false =>
  rw[hb1] at U;refine fin' O2 Q F E ?_ g1 (λj x r l=>by rw[g3 j r (X j x l)];exact C j x r l) g4 g5 (by omega);rw[uN rfl U,Bv rfl]
end
theorem JZ{α:Type}{g:MG}{t:L2.M Bool}{m:L2.M D}(a:aA->Prop)(p:α->Bool)(f:α->D):∀(xs:List α) (ρ:aA) (O:aq) (acc:List D),a ρ->(∀x∈xs,∀ρ,a ρ->∃ρ1,g (f x) ρ=some ρ1/\a ρ1/\t ρ1 O=.ok (p x) O/\m ρ1 O=.ok (f x) O)->cX g t m (xs.map f) ρ O acc=.ok (acc++(xs.filter p).map f) O
 | [],ρ,O,acc,_,_=>by simp[cX]
 |x::xs,ρ,O,acc,h,hs=>by
  obtain⟨ρ1,n,h1,l,j⟩:=hs x zg ρ h
  have d:=λacc=>JZ (g:=g) (t:=t) (m:=m) a p f xs ρ1 O acc h1 λr c=>hs r (zq _ c)
  rw[zd];unfold cX;rw[n];dsimp only;rw[l]
  cases q:p x with
  |true =>
   dsimp only;rw[j];dsimp only;rw[d,List.filter_cons,q];simp
  |false =>
   dsimp only;rw[d,List.filter_cons,q];simp
theorem Y7(b:Nat):gU (((b+1:Nat):Int) - 1) (b+1)=.int (b:Int)::gU ((b:Int) - 1) b:=by
 unfold gU;rw[List.range_succ_eq_map,zd,zL];congr 1
 ·show D.int _=_;congr 1;omega
 ·refine jo λi _=>?_
  show D.int _=D.int _;congr 1;omega
def Pri(N:Nat)(nodes:Nat->List Nd)(f:Nd->List M3)(d:Nd->Bool)(b:Nat)(a:Tb):Prop:=∀c,b<=c->c<=N->∀n∈nodes c,lk a n=some (fnl d (λn=>lc a (f n)) n)
def B_p:MS:=(oV (aG qb (ak (aa 0) (ak (aa 2) (ak (aa 1) au)))))
section
variable {t:Nat}{fs:List (Str×D)}{N:Nat}{nodes:Nat->List Nd}{mv:Nd->List M3}{fin:Nd->Bool}{p q:Nat}
theorem J0(T:Trl t fs N nodes mv fin):∀(b:Nat) (O:aq) (f:Tb) (C:Option D),b<=N+1->O[t]?=some (.ins "Leaps" fs)->O[p]?=some (.dn (tab f))->Pri N nodes mv fin b f->f.length+10 * b<=800000 ->
  ∃u l y,b8 (mgN 2) B_p (gU ((b:Int) - 1) b) [some (.ob t),some (.ob p),C] O=.nx [some (.ob t),some (.ob p),y] u/\u[p]?=some (.dn (tab l))/\(∀(j:Nat) (x:Ob),j≠p->O[j]?=some x->u[j]?=some x)/\Pri N nodes mv fin 0 l
 | 0,O,f,C,_,_,hp,hP,_=>⟨O,f,C,rfl,hp,λ_ _ _ h=>h,hP⟩
 |a+1,O,f,C,hb,ht,hp,hP,hl=>by
  have P:a<=N:=by omega
  have G:∀n∈nodes a,∀m∈mv n,(lk f m.other).isSome=true:=λn B m F=>by
   obtain⟨c,c1,E,c3⟩:=T.fw a n P B m F;rw[hP c (by omega) E _ c3];rfl
  obtain⟨U,g,e,g1,R,Q,g4,g5⟩:=Y6 T P ht hp G (by omega);have W:t≠p:=qC ht hp (λz=>nomatch z)
  have H:Pri N nodes mv fin a g:=λc c1 E n B=>by
   have I:∀m∈mv n,lk g m.other=lk f m.other:=λm F=>Q _ λz=>by
    obtain⟨d,d1,d2,d3⟩:=T.fw c n E B m F
    have:=T.sp a d _ z d3
    omega
   have eL:lc g (mv n)=lc f (mv n):=uM I
   have eF:fnl fin (λn=>lc g (mv n)) n=fnl fin (λn=>lc f (mv n)) n:=by
    show(if fin n=true then some 0 else lc g (mv n))=_;rw[eL];rfl
   rw[eF]
   by_cases L:c=a
   ·subst L;exact g4 n B
   ·rw[Q n λz=>L (T.sp c a n B z)];exact hP c (by omega) E n B
  obtain⟨u,l,y,e2,Z,Y,X⟩:=J0 T a U g (some (.int (a:Int))) (by omega) (R t _ W ht) g1 H (by omega);refine⟨u,l,y,?_,Z,λj x J hx=>Y j x J (R j x J hx),X⟩;rw[Y7];unfold b8;rw[mg_n];dsimp only
  have eb:B_p [some (.ob t),some (.ob p),some (.int (a:Int))] O=.nx [some (.ob t),some (.ob p),some (.int (a:Int))] U:=by
   unfold B_p;rw[Wg,cg (maS rfl (maS rfl (ma1 rfl))),e,Wh]
  show(match B_p [some (.ob t),some (.ob p),some (.int (a:Int))] O with
   | .nx ρ' u=>b8 _ _ (gU ((a:Int) - 1) a) ρ' u | .ct ρ' u=>b8 _ _ (gU ((a:Int) - 1) a) ρ' u | .bk ρ' u=>Fl.nx ρ' u | r=>r)=_
  rw[eb];exact e2
theorem Y8(T:Trl t fs N nodes mv fin){O:aq}(m:O[t]?=some (.ins "Leaps" fs)):∃f a,tU [.ob t] O=.ok (.ob O.length) f/\f[O.length]?=some (.dn (tab a))/\(∀(j:Nat) (x:Ob),O[j]?=some x->f[j]?=some x)/\Pri N nodes mv fin 0 a:=by
 have hN:=T.hN;have g:=(zr.mp m).1
 have d:(O++[Ob.dn []])[t]?=some (.ins "Leaps" fs):=by rw[zB g];exact m
 obtain⟨f,a,C,e,u,r,n⟩:=J0 (p:=O.length) T (N+1) (O++[Ob.dn []]) [] none (zc _) d (by simp[tab]) (λc B E=>absurd B (by omega)) (by simp;omega);refine⟨f,a,?_,u,λj x l=>?_,n⟩
 ·have y:rQ (ak (bO "Leaps" "last_at" eX (mG (aa 0)) au) (ak (mUn jz (mC (.int 1))) (ak (mUn jz (mC (.int 1))) au))) [some (.ob t),some (.ob O.length),none] (O++[Ob.dn []])=.ok (gU (((N+1:Nat):Int) - 1) (N+1)) (O++[Ob.dn []]):=by
   unfold rQ;rw[maS ((iu rfl d T.u4 rfl).trans (T.la _ d)) (maS (x:=.int (-1)) rfl (ma1 (x:=.int (-1)) rfl))];dsimp only[aR];rw[if_pos ⟨rfl,by omega,by omega,by decide,by decide⟩];congr 1;rw[show((N:Int) - -1).toNat=N+1 by omega,show(((N+1:Nat):Int) - 1)=(N:Int) by omega]
  unfold B_p at e;show bh (tR [some (.ob t),none,none] O)=_;unfold tR;rw[sq (iV (show pQ [some (.ob t),none,none] O=.ok (.ob O.length) (O++[Ob.dn []]) from rfl))];show bh (aC _ _ [some (.ob t),some (.ob O.length),none] (O++[Ob.dn []]))=_;rw[gk,lU,y,lV,e,nu];rfl
 ·have:=(zr.mp l).1
  exact r j x (by omega) (by rw[zB this];exact l)
theorem Bw:∀(l:List Int) (b:Option Int) (c:Int),mdI b l=some c->b=some c\/c∈l
 | [],b,c,h=>.inl (by cases b<;>exact h)
 |n::r,none,c,h=>by
  rcases Bw r (some n) c h with h | h
  ·exact .inr (by rw[zz h];exact zg)
  ·exact .inr (zq _ h)
 |n::r,some m,c,h=>by
  rcases Bw r (some (if n<m then n else m)) c h with h | h
  ·split at h
   ·exact .inr (by rw[zz h];exact zg)
   ·exact .inl h
  ·exact .inr (zq _ h)
theorem J1:∀(l:List Int) (b:Int),∃c,mdI (some b) l=some c
 | [],b=>⟨b,rfl⟩
 |n::r,b=>J1 r (if n<b then n else b)
theorem Y9{l:List Int}(h:l≠[]):∃c,mdI none l=some c:=by
 cases l with
 |nil=>exact absurd rfl h
 |cons n r=>exact J1 r n
theorem Za(x y:Option Int):gEq (pD x) (pD y)=some (.bl (decide (x=y))):=by
 cases x with
 |none=>cases y<;>rfl
 |some i =>
  cases y with
  |none=>rfl
  |some j =>
   show some (D.bl (decide (i=j)))=_;congr 2;exact decide_eq_decide.mpr ⟨λh=>by rw[h],λh=>zz h⟩
theorem J2{α:Type}(f:α->Bool)(g:α->D)(h:α->Bool):∀(ms:List α) (m:α),ms.find? f=some m->((ms.filter f).map g)[0]?=some (g m)
 |x::ms,m,e=>by
  rw[List.find?_cons] at e
  cases hx:f x with
  |true =>
   rw[hx] at e;cases e;simp[hx]
  |false =>
   rw[hx] at e;rw[List.filter_cons,hx];exact J2 f g h ms m e
theorem Zb{O:aq}{ps:Tb}{ms:List M3}{c:Int}(u:O[p]?=some (.dn (tab ps)))(B:∀m∈ms,(lk ps m.other).isSome=true)(H:ms.length<=1000)(f:lc ps ms=some c):
  ∃m,ms.find? (λm=>decide (co ps m=lc ps ms))=some m/\m∈ms/\co ps m=some c/\qd [.lst (ms.map d3),.ob p] O=.ok (d3 m) O:=by
 obtain⟨x,G,g⟩:∃x∈ms,co ps x=some c:=by
  rcases Bw _ _ _ f with h | h
  ·cases h
  ·exact List.mem_filterMap.mp h
 obtain⟨m,d⟩:∃m,ms.find? (λm=>decide (co ps m=lc ps ms))=some m:=by
  cases e:ms.find? (λm=>decide (co ps m=lc ps ms)) with
  |some m=>exact⟨m,rfl⟩
  |none =>
   have:=List.find?_eq_none.mp e x G
   rw[g,f] at this;simp at this
 have l:=List.mem_of_find?_eq_some d
 have n:co ps m=some c:=by
  have:=List.find?_some d
  rw[<-f];exact zU this
 refine⟨m,d,l,n,?_⟩;have F:aG lX (ak (aa 0) (ak (aa 1) au)) [some (.lst (ms.map d3)),some (.ob p),none] O=.ok (pD (lc ps ms)) O:=(cg (maS rfl (ma1 rfl))).trans (JQ u B H)
 have I:cX (mgN 0) (aB (aj gEq (aG jG (ak (aa 0) (ak (aa 1) au))) (aa 2))) (aa 0) (ms.map d3) [none,some (.ob p),some (pD (lc ps ms))] O []=.ok ((ms.filter λm=>decide (co ps m=lc ps ms)).map d3) O:=by
  rw[JZ (λρ=>∃a,ρ=[a,some (.ob p),some (pD (lc ps ms))]) (λm=>decide (co ps m=lc ps ms)) d3 ms _ _ _ ⟨none,rfl⟩ (by
   rintro m' hm' ρ ⟨a,rfl⟩
   exact⟨_,rfl,⟨_,rfl⟩,dB (bf ((cg (maS rfl (ma1 rfl))).trans (JN u (B m' hm'))) (y:=pD (lc ps ms)) rfl (by
    rw[show bG O (pD (co ps m'))=pD (co ps m') by cases co ps m'<;>rfl,show bG O (pD (lc ps ms))=pD (lc ps ms) by cases lc ps ms<;>rfl,Za])),rfl⟩)]
  rw[zK]
 have E:dJ (cJ (aa 0)) 1 [1,2] (mgN 0) (aB (aj gEq (aG jG (ak (aa 0) (ak (aa 1) au))) (aa 2))) (aa 0) [some (.lst (ms.map d3)),some (.ob p),some (pD (lc ps ms))] O=.ok (.lst ((ms.filter λm=>decide (co ps m=lc ps ms)).map d3)) O:=kI (iw rfl) (by rw[zf];omega) rfl I
 have C:aj gIx (dJ (cJ (aa 0)) 1 [1,2] (mgN 0) (aB (aj gEq (aG jG (ak (aa 0) (ak (aa 1) au))) (aa 2))) (aa 0)) (mC (.int 0)) [some (.lst (ms.map d3)),some (.ob p),some (pD (lc ps ms))] O=.ok (d3 m) O:=bf E m_c (by
  rw[j6,jD,pX]
  exact(pY (j:=0)).trans (J2 _ d3 (λ_=>true) ms m d))
 show bh (tW [some (.lst (ms.map d3)),some (.ob p),none] O)=_;unfold tW;rw[sq (bU F),dW];exact congrArg (λr=>bh (lR r)) C
end
def Wy(ps:Tb)(c:Nd->List M3)(a:Nd->Bool):Nd->List M3->Prop
 |n,[]=>a n=true
 |n,m::ms=>a n=false/\m∈c n/\(c n).find? (λm=>decide (co ps m=lc ps (c n)))=some m/\Wy ps c a m.other ms
def B_y:MS:=(aC (aH 5 (aG qd (ak (bO "Leaps" "moves_from" iQ (mG (aa 0)) (ak (aa 2) au)) (ak (aa 1) au))))
  (aC (cT 4 (aj gIx (aa 5) (mC (.int 1))))
  (aH 2 (aj gIx (aa 5) (mC (.int 2))))))
section
variable {t:Nat}{fs:List (Str×D)}{N:Nat}{nodes:Nat->List Nd}{mv:Nd->List M3}{fin:Nd->Bool}{p q:Nat}
theorem Zc(T:Trl t fs N nodes mv fin){ps:Tb}(J:Pri N nodes mv fin 0 ps){O:aq}(C:O[t]?=some (.ins "Leaps" fs))(R:O[p]?=some (.dn (tab ps)))(g:Option D):∀(k a:Nat) (n:Nd) (c:Int) (nm:List D) (f:Nat) (r:Option D),a+k=N->n∈nodes a->lk ps n=some (some c)->k<f->nm.length+k<1000000 ->
  ∃ms E j,dU (oU (cW (bO "Leaps" "is_end" iR (mG (aa 0)) (ak (aa 2) au)))) B_y f [some (.ob t),some (.ob p),some (dN n),g,some (.lst nm),r] O=.nx [some (.ob t),some (.ob p),some (dN E),g,some (.lst (nm++ms.map λm=>.str m.name)),j] O/\Wy ps mv fin n ms/\ms.length<=k:=by
 intro k
 induction k using Nat.strongRecOn with
 | _ k ih =>
  intro a n c nm f r hak u U hf hl;obtain⟨G,rfl⟩:∃G,f=G+1:=⟨f - 1,by omega⟩
  have B:oU (cW (bO "Leaps" "is_end" iR (mG (aa 0)) (ak (aa 2) au))) [some (.ob t),some (.ob p),some (dN n),g,some (.lst nm),r] O=.ok (!fin n) O:=by
   rw[Wa,w6,(iu rfl C T.u3 (ma1 rfl)).trans (T.ie O a n C (by omega) u),aR,Hk,Hq,Ho,aR]
  cases hfin:fin n with
  |true =>
   rw[hfin] at B;exact⟨[],n,r,by rw[Bv B];simp,hfin,Nat.zero_le _⟩
  |false =>
   rw[hfin] at B
   have W:lc ps (mv n)=some c:=by
    have:=J a (Nat.zero_le _) (by omega) n u
    rw[U] at this;have h2:some c=fnl fin (λn=>lc ps (mv n)) n:=zz this;unfold fnl at h2;rw[hfin,if_neg zh] at h2;exact h2.symm
   have F:∀m∈mv n,(lk ps m.other).isSome=true:=λm F=>by
    obtain⟨b,b1,L,H⟩:=T.fw a n (by omega) u m F;rw[J b (Nat.zero_le _) L _ H];rfl
   obtain⟨m,e1,y,l,Z⟩:=Zb R F (T.ml n) W;obtain⟨b,b1,L,H⟩:=T.fw a n (by omega) u m y
   obtain⟨x,I⟩:∃x,lk ps m.other=some (some x):=by
    unfold co at l;split at l
    ·rename_i x e;exact⟨x,e⟩
    ·cases l
   have Q:aG qd (ak (bO "Leaps" "moves_from" iQ (mG (aa 0)) (ak (aa 2) au)) (ak (aa 1) au)) [some (.ob t),some (.ob p),some (dN n),g,some (.lst nm),r] O=.ok (d3 m) O:=(cg (maS ((iu rfl C T.u2 (ma1 rfl)).trans (T.mf O a n C (by omega) u)) (ma1 rfl))).trans Z
   have X:B_y [some (.ob t),some (.ob p),some (dN n),g,some (.lst nm),r] O=.nx [some (.ob t),some (.ob p),some (dN m.other),g,some (.lst (nm++[.str m.name])),some (d3 m)] O:=by
    unfold B_y;rw[sq (bU Q)];show aC _ _ [some (.ob t),some (.ob p),some (dN n),g,some (.lst nm),some (d3 m)] O=_;rw[sq (qj (d:=.str m.name) (ds:=nm) (bf rfl rfl rfl) rfl (by omega))];rfl
   obtain⟨ms,E,j,Y,P,l3⟩:=ih (N - b) (by omega) b m.other x (nm++[.str m.name]) G (some (d3 m)) (by omega) H I (by omega) (by rw[zn,jd];omega);refine⟨m::ms,E,j,?_,⟨hfin,y,e1,P⟩,by rw[zv];omega⟩;rw[uN B X,Y,zE];rfl
theorem J3(T:Trl t fs N nodes mv fin)(f:∀(a:Nat) (n:Nd),a<=N->n∈nodes a->fin n=false->mv n≠[]){ps:Tb}(x:Pri N nodes mv fin 0 ps):∀(k a:Nat) (n:Nd),a+k=N->n∈nodes a->∃c,lk ps n=some (some c):=by
 intro k
 induction k using Nat.strongRecOn with
 | _ k ih =>
  intro a n C d;have h1:=x a (Nat.zero_le _) (by omega) n d
  cases hfin:fin n with
  |true =>
   refine⟨0,?_⟩;rw[h1];unfold fnl;rw[hfin,if_pos rfl]
  |false =>
   have h2:lk ps n=some (lc ps (mv n)):=by
    rw[h1];unfold fnl;rw[hfin,if_neg zh]
   obtain⟨m,r⟩:=List.exists_mem_of_ne_nil _ (f a n (by omega) d hfin);obtain⟨b,F,E,B⟩:=T.fw a n (by omega) d m r;obtain⟨c,u⟩:=ih (N - b) (by omega) b m.other (by omega) B
   have g:co ps m=some (m.cost+c):=by
    unfold co;rw[u]
   obtain⟨y,j⟩:=Y9 (l:=(mv n).filterMap (co ps)) (λz=>by
    have:=List.mem_filterMap.mpr ⟨m,r,g⟩
    rw[z] at this
    cases this)
   exact⟨y,by rw[h2];exact congrArg some j⟩
theorem Zd(T:Trl t fs N nodes mv fin)(u:∀(a:Nat) (n:Nd),a<=N->n∈nodes a->fin n=false->mv n≠[])(Q:N<300){O:aq}(y:O[t]?=some (.ins "Leaps" fs)):
  ∃f ps c ms,qe [.ob t] O=.ok (.tup [.int c,.lst (ms.map λm=>.str m.name)]) f/\(∀(j:Nat) (x:Ob),O[j]?=some x->f[j]?=some x)/\Pri N nodes mv fin 0 ps/\lk ps (0,(46,46))=some (some c)/\Wy ps mv fin (0,(46,46)) ms:=by
 obtain⟨f,ps,I,C,B,l⟩:=Y8 T y;obtain⟨c,g⟩:=J3 T u l N 0 (0,(46,46)) (zV _) T.f0;have ht':=B t _ y;obtain⟨ms,L,J,r,E,P⟩:=Zc T l ht' C (some (.int c)) N 0 (0,(46,46)) c [] 300 none (zV _) T.f0 g (by omega) (by simp;omega);refine⟨f,ps,c,ms,?_,B,l,g,E⟩;have H:aG tU (ak (aa 0) au) [some (.ob t),none,none,none,none,none] O=.ok (.ob O.length) f:=(cg (ma1 rfl)).trans I;have G:bO "Leaps" "first_node" tX (mG (aa 0)) au [some (.ob t),some (.ob O.length),none,none,none,none] f=.ok (dN (0,(46,46))) f:=(iu rfl ht' T.u5 rfl).trans (T.fi f ht')
 have F:du (aa 1) (aa 2) [some (.ob t),some (.ob O.length),some (dN (0,(46,46))),none,none,none] f=.ok (.int c) f:=Bu rfl C rfl g;unfold B_y at r;rw[zK] at r;show bh (tY [some (.ob t),none,none,none,none,none] O)=_;unfold tY;rw[sq (iV H)];show bh (aC _ _ [some (.ob t),some (.ob O.length),none,none,none,none] f)=_;rw[sq (bU G)];show bh (aC _ _ [some (.ob t),some (.ob O.length),some (dN (0,(46,46))),none,none,none] f)=_;rw[sq (bU F)];show bh (aC _ _ [some (.ob t),some (.ob O.length),some (dN (0,(46,46))),some (.int c),none,none] f)=_;rw[sq (show bc (aB (iC (aa 3))) (aZ (mC .non)) bz [some (.ob t),some (.ob O.length),some (dN (0,(46,46))),some (.int c),none,none] f=.nx [some (.ob t),some (.ob O.length),some (dN (0,(46,46))),some (.int c),none,none] f from rfl)]
 rw[sq (bU (d:=.lst []) (Bd rfl (Nat.zero_le _)))];show bh (aC (gK 300 _ _) _ [some (.ob t),some (.ob O.length),some (dN (0,(46,46))),some (.int c),some (.lst []),none] f)=_;unfold gK;rw[sq r];rfl
end
theorem Bx{m:L2.M D}{ρ:aA}{O:aq}{t:List Nat}(h:m ρ O=.ok (.str t) O)(hz:t.length<=1000000):bK cR (ak m au) ρ O=.ok (.int (t.length:Int)) O:=km (xs:=[.str t]) (ma1 h) (by
 show cR [D.str t]=_
 rw[Wv,if_pos hz])
theorem uO{a b:L2.M D}{ρ:aA}{O:aq}{x y:List Nat}(f:a ρ O=.ok (.str x) O)(d:b ρ O=.ok (.str y) O)(c:x.length+y.length<=1000000):aj aD a b ρ O=.ok (.str (x++y)) O:=bf f d (by rw[w5,w5,Wn,if_pos c])
def mi(p:Nat×Nat)(c:Nat):List Nat:=if p.1=c then[] else[91,c,93]
def mg'(p:Nat×Nat)(c:Nat):List Nat:=if p.2=c then[] else[91,47,c,93]
def mbS(p q:Nat×Nat):List Nat:=mi p q.1++mg' p q.2
def mbA(q:Nat×Nat):List Nat:=[91,93]++mi (46,46) q.1++mg' (46,46) q.2
def mb(p q:Nat×Nat):List Nat:=if(mbA q).length<(mbS p q).length then mbA q else mbS p q
theorem uP(p:Nat×Nat)(c:Nat):(mi p c).length<=3:=by unfold mi;split<;>simp
theorem uQ(p:Nat×Nat)(c:Nat):(mg' p c).length<=4:=by unfold mg';split<;>simp
theorem J4(p q:Nat×Nat):(mbS p q).length<=7:=by
 unfold mbS;rw[zn]
 have:=uP p q.1
 have:=uQ p q.2
 omega
theorem J5(q:Nat×Nat):(mbA q).length<=9:=by
 unfold mbA;rw[zn,zn]
 have:=uP (46,46) q.1
 have:=uQ (46,46) q.2
 show 2+_+_<=9;omega
theorem J6(p q:Nat×Nat):(mb p q).length<=9:=by
 unfold mb
 have:=J4 p q
 have:=J5 q
 split<;>omega
theorem J7(p:Nat×Nat)(c:Nat)(O:aq):gZ [pr p,.str [105,110,107],st c] O=.ok (.str (mi p c)) O:=by
 have a:aH 3 (mIf (aB (aj gEq (aa 1) (mC (.str [105,110,107])))) (mC (.int 0)) (mC (.int 1))) [some (pr p),some (.str [105,110,107]),some (st c),none] O=.nx [some (pr p),some (.str [105,110,107]),some (st c),some (.int 0)] O:=rfl;have t1:aB (aj gEq (aj gIx (aa 0) (aa 3)) (aa 2)) [some (pr p),some (.str [105,110,107]),some (st c),some (.int 0)] O=.ok (decide (p.1=c)) O:=dB (bf (x:=st p.1) (y:=st c) rfl rfl (nZ _ _));show bh (nF [some (pr p),some (.str [105,110,107]),some (st c),none] O)=_;unfold nF mi;rw[sq a,dW,nj,t1,aR]
 by_cases h:p.1=c
 ·rw[zj h,if_pos rfl,if_pos h];rfl
 ·rw[ze h,if_neg zh,if_neg h];rw[cg (maS (x:=.str dO) rfl (ma1 (x:=st c) rfl)),Yd];rfl
theorem J8(p:Nat×Nat)(c:Nat)(O:aq):gZ [pr p,.str [103,114,111,117,110,100],st c] O=.ok (.str (mg' p c)) O:=by
 have a:aH 3 (mIf (aB (aj gEq (aa 1) (mC (.str [105,110,107])))) (mC (.int 0)) (mC (.int 1))) [some (pr p),some (.str [103,114,111,117,110,100]),some (st c),none] O=.nx [some (pr p),some (.str [103,114,111,117,110,100]),some (st c),some (.int 1)] O:=rfl;have t1:aB (aj gEq (aj gIx (aa 0) (aa 3)) (aa 2)) [some (pr p),some (.str [103,114,111,117,110,100]),some (st c),some (.int 1)] O=.ok (decide (p.2=c)) O:=dB (bf (x:=st p.2) (y:=st c) rfl rfl (nZ _ _));show bh (nF [some (pr p),some (.str [103,114,111,117,110,100]),some (st c),none] O)=_;unfold nF mg';rw[sq a,dW,nj,t1,aR]
 by_cases h:p.2=c
 ·rw[zj h,if_pos rfl,if_pos h];rfl
 ·rw[ze h,if_neg zh,if_neg h];rw[cg (maS (x:=.str dX) rfl (ma1 (x:=st c) rfl)),Ye];rfl
theorem Ze(p q:Nat×Nat)(O:aq):tK [pr p,pr q] O=.ok (.str (mb p q)) O:=by
 have l:=J4 p q;have m:=J5 q;have j:=uP p q.1;have g:=uQ p q.2;have f:=uP (46,46) q.1;have d:=uQ (46,46) q.2;have c:aj aD (aG gZ (ak (aa 0) (ak (mC (.str [105,110,107])) (ak (aj gIx (aa 1) (mC (.int 0))) au)))) (aG gZ (ak (aa 0) (ak (mC (.str [103,114,111,117,110,100])) (ak (aj gIx (aa 1) (mC (.int 1))) au)))) [some (pr p),some (pr q),none,none] O=.ok (.str (mbS p q)) O :=
  uO ((cg (maS rfl (maS rfl (ma1 (bf (x:=pr q) (z:=st q.1) rfl rfl rfl))))).trans (J7 p q.1 O)) ((cg (maS rfl (maS rfl (ma1 (bf (x:=pr q) (z:=st q.2) rfl rfl rfl))))).trans (J8 p q.2 O)) (by omega)
 have a:aj aD (aj aD (aG iM (ak (mC (.str [112,108,97,105,110])) (ak (mC (.str [])) au))) (aG gZ (ak (mC (.tup [.str [46],.str [46]])) (ak (mC (.str [105,110,107])) (ak (aj gIx (aa 1) (mC (.int 0))) au))))) (aG gZ (ak (mC (.tup [.str [46],.str [46]])) (ak (mC (.str [103,114,111,117,110,100])) (ak (aj gIx (aa 1) (mC (.int 1))) au)))) [some (pr p),some (pr q),some (.str (mbS p q)),none] O=.ok (.str (mbA q)) O :=
  uO (uO (x:=[91,93]) ((cg (maS rfl (ma1 rfl))).trans (Yg O)) ((cg (maS rfl (maS rfl (ma1 (bf (x:=pr q) (z:=st q.1) rfl rfl rfl))))).trans (J7 (46,46) q.1 O)) (by show 2+_<=_;omega)) ((cg (maS rfl (maS rfl (ma1 (bf (x:=pr q) (z:=st q.2) rfl rfl rfl))))).trans (J8 (46,46) q.2 O)) (by rw[zn];show 2+_+_<=_;omega)
 have t1:aB (aj gLt (bK cR (ak (aa 3) au)) (bK cR (ak (aa 2) au))) [some (pr p),some (pr q),some (.str (mbS p q)),some (.str (mbA q))] O=.ok (decide (((mbA q).length:Int)<(mbS p q).length)) O:=Be (Bx rfl (by omega)) (Bx rfl (by omega));show bh (tH [some (pr p),some (pr q),none,none] O)=_;unfold tH mb;rw[sq (bU c)];show bh (aC _ _ [some (pr p),some (pr q),some (.str (mbS p q)),none] O)=_;rw[sq (bU a)];show bh (aZ _ [some (pr p),some (pr q),some (.str (mbS p q)),some (.str (mbA q))] O)=_;rw[dW,nj,t1,aR]
 by_cases h:(mbA q).length<(mbS p q).length
 ·rw[zj (by omega),if_pos rfl,if_pos h];rfl
 ·rw[ze (by omega),if_neg zh,if_neg h];rfl
def lfs(l:List L3)(cs:List Nat):List (Str×D):=[("look",.lst (l.map dL)),("inks",.lst (cs.map st))]
def nds(l:List L3)(cs:List Nat)(a:Nat):List Nd:=if a=0\/a=l.length+1 then[((a:Int),(46,46))] else match l[a - 1]? with
 |some x=>if x.1=32 then cs.map λc=>((a:Int),(c,x.2.2)) else[((a:Int),(x.2.1,x.2.2))]
 |none=>[]
def sg(l:List L3)(a:Nat):List Nat:=match l[a]? with
 |some x=>sgn x.1
 |none=>[]
def lmv(l:List L3)(cs:List Nat)(n:Nd):List M3:=if n.1=(l.length:Int)+1 then[] else(nds l cs (n.1.toNat+1)).map λb=>⟨((mb n.2 b.2).length:Int),mb n.2 b.2++sg l n.1.toNat,b⟩
def fJ(l:List L3)(n:Nd):Bool:=decide (n.1=(l.length:Int)+1)
theorem gw{l:List L3}{cs:List Nat}{a:Nat}{n:Nd}(h:n∈nds l cs a):n.1=(a:Int):=by
 unfold nds at h;split at h
 ·rw[zw.mp h]
 ·split at h
  ·split at h
   ·obtain⟨c,_,rfl⟩:=zy.mp h;rfl
   ·rw[zw.mp h]
  ·cases h
theorem Zf(c:Nat):(sgn c).length<=2:=by unfold sgn;split<;>simp
theorem J9(l:List L3)(a:Nat):(sg l a).length<=2:=by
 unfold sg
 split
 ·exact Zf _
 ·exact Nat.zero_le _
section
variable {O:aq}{t:Nat}{l:List L3}{cs:List Nat}
theorem uR(c:O[t]?=some (.ins "Leaps" (lfs l cs))):eX [.ob t] O=.ok (.int ((l.length:Int)+1)) O:=by
 have h:eQ ["Leaps"] "look" (aa 0) [some (.ob t)] O=.ok (.lst (l.map dL)) O:=uH (n:=t) rfl c zg rfl;have a:=qm h;rw[zf] at a;show bh (sZ [some (.ob t)] O)=_;unfold sZ;rw[dW,iT a rfl];rfl
theorem Ka{k:Nat}{x:L3}(h:l[k]?=some x):gIx (.lst (l.map dL)) (.int (k:Int))=some (dL x):=by
 rw[pX,pY,zD,h];rfl
theorem Kc(f:O[t]?=some (.ins "Leaps" (lfs l cs)))(G:cs.length<=100){a:Nat}(H:a<=l.length+1):j9 [.ob t,.int (a:Int)] O=.ok (.lst ((nds l cs a).map dN)) O:=by
 have B:bO "Leaps" "last_at" eX (aa 0) au [some (.ob t),some (.int (a:Int)),none] O=.ok (.int ((l.length:Int)+1)) O:=(iu rfl f rfl rfl).trans (uR f);have t1:aB (aj gEq (aa 1) (mC (.int 0))) [some (.ob t),some (.int (a:Int)),none] O=.ok (decide ((a:Int)=0)) O:=kE rfl rfl;have t2:aB (aj gEq (aa 1) (bO "Leaps" "last_at" eX (aa 0) au)) [some (.ob t),some (.int (a:Int)),none] O=.ok (decide ((a:Int)=(l.length:Int)+1)) O:=kE rfl B;show bh (tG [some (.ob t),some (.int (a:Int)),none] O)=_;unfold tG nds
 by_cases h:a=0\/a=l.length+1
 ·have j:cO (aB (aj gEq (aa 1) (mC (.int 0)))) (aB (aj gEq (aa 1) (bO "Leaps" "last_at" eX (aa 0) au))) [some (.ob t),some (.int (a:Int)),none] O=.ok true O:=by
   rw[j7,t1,aR]
   by_cases h0:a=0
   ·rw[zj (by omega),if_pos rfl]
   ·rw[ze (by omega),if_neg zh,t2,zj (by omega)]
  rw[if_pos h,gk,ifY j];rfl
 ·have j:cO (aB (aj gEq (aa 1) (mC (.int 0)))) (aB (aj gEq (aa 1) (bO "Leaps" "last_at" eX (aa 0) au))) [some (.ob t),some (.int (a:Int)),none] O=.ok false O:=by
   rw[ze (by omega)] at t1;rw[ze (by omega)] at t2;exact nY t1 t2
  rw[if_neg h,sq (ifN j)]
  have r:a - 1<l.length:=by omega
  have q:l[a - 1]?=some l[a - 1]:=zu r
  generalize l[a - 1]=x at q
  rw[q];have E:eQ ["Leaps"] "look" (aa 0) [some (.ob t),some (.int (a:Int)),none] O=.ok (.lst (l.map dL)) O:=uH (n:=t) rfl f zg rfl
  have u:aj gIx (eQ ["Leaps"] "look" (aa 0)) (aj oY (aa 1) (mC (.int 1))) [some (.ob t),some (.int (a:Int)),none] O=.ok (dL x) O:=bf E (X4 rfl rfl) (by
   rw[j6,jD,show(a:Int) - 1=((a - 1:Nat):Int) by omega]
   exact Ka q)
  rw[sq (bU u)];show bh (aC _ _ [some (.ob t),some (.int (a:Int)),some (dL x)] O)=_;have d:aB (aj gEq (aj gIx (aa 2) (mC (.int 0))) (mC (.str [32]))) [some (.ob t),some (.int (a:Int)),some (dL x)] O=.ok (decide (x.1=32)) O:=dB (bf (x:=st x.1) (y:=st 32) rfl rfl (nZ _ _));dsimp only
  by_cases h3:x.1=32
  ·rw[zj h3] at d;have C:eQ ["Leaps"] "inks" (aa 0) [some (.ob t),some (.int (a:Int)),some (dL x)] O=.ok (.lst (cs.map st)) O:=uH (n:=t) rfl f zg rfl
   have cl:=nA (g:=mgN 0) (t:=fM) (m:=bH (ak (mG (aa 1)) (ak (bH (ak (aa 0) (ak (aj gIx (aa 2) (mC (.int 2))) au))) au))) (λρ=>∃b,ρ=[b,some (.int (a:Int)),some (dL x)]) st (λc=>dN ((a:Int),(c,x.2.2))) cs [none,some (.int (a:Int)),some (dL x)] O [] ⟨_,rfl⟩ (by
    rintro c _ ρ ⟨b,rfl⟩
    exact⟨_,rfl,⟨_,rfl⟩,rfl,rfl⟩)
   rw[zK] at cl;have F:=kI (own:=1) (cap:=[1,2]) (iw C) (by rw[zf];omega) rfl cl;rw[if_pos h3,gk,ifY d,dW,F,zL];rfl
  ·rw[ze h3] at d;rw[if_neg h3,sq (ifN d)];rfl
def uT:MS:=(aC (aH 6 (aG tK (ak (aj gIx (aa 1) (mC (.int 1))) (ak (aj gIx (aa 5) (mC (.int 1))) au))))
  (cT 4 (bH (ak (bK cR (ak (aa 6) au)) (ak (aj aD (aa 6) (aa 3)) (ak (aa 5) au))))))
theorem Kd(n:Nd)(s:List Nat)(hs:s.length<=2)(f a2:Option D):∀(bs:List Nd) (acc:List D) (j g:Option D),acc.length+bs.length<1000000->∃c a,b8 (mgN 5) uT (bs.map dN) [f,some (dN n),a2,some (.str s),some (.lst acc),j,g] O=.nx [f,some (dN n),a2,some (.str s),some (.lst (acc++bs.map λb=>d3 ⟨((mb n.2 b.2).length:Int),mb n.2 b.2++s,b⟩)),c,a] O
 | [],acc,j,g,_=>⟨j,g,by rw[zQ,zQ,zX];rfl⟩
 |b::bs,acc,j,g,hl=>by
  rw[zv] at hl;have q:=J6 n.2 b.2;obtain⟨c,a,e⟩:=Kd n s hs f a2 bs (acc++[d3 ⟨((mb n.2 b.2).length:Int),mb n.2 b.2++s,b⟩]) (some (dN b)) (some (.str (mb n.2 b.2))) (by rw[zn,jd];omega);refine⟨c,a,?_⟩
  have m:uT [f,some (dN n),a2,some (.str s),some (.lst acc),some (dN b),g] O=.nx [f,some (dN n),a2,some (.str s),some (.lst (acc++[d3 ⟨((mb n.2 b.2).length:Int),mb n.2 b.2++s,b⟩])),some (dN b),some (.str (mb n.2 b.2))] O:=by
   unfold uT;rw[sq (bU ((cg (maS (bf (x:=dN n) (z:=pr n.2) rfl rfl rfl) (ma1 (bf (x:=dN b) (z:=pr b.2) rfl rfl rfl)))).trans (Ze n.2 b.2 O)))];show cT 4 _ [f,some (dN n),a2,some (.str s),some (.lst acc),some (dN b),some (.str (mb n.2 b.2))] O=_;rw[qj (ds:=acc) (d:=d3 ⟨((mb n.2 b.2).length:Int),mb n.2 b.2++s,b⟩) (jK (maS (Bx rfl (by omega)) (maS (uO rfl rfl (by omega)) (ma1 rfl))) (show(3:Nat)<=1000000 by decide)) rfl (by omega)];rfl
  rw[zd,Ji rfl m,e,zE];rfl
theorem Zg(c:O[t]?=some (.ins "Leaps" (lfs l cs)))(g:cs.length<=100){a:Nat}(G:a<=l.length+1){n:Nd}(B:n∈nds l cs a):iQ [.ob t,dN n] O=.ok (.lst ((lmv l cs n).map d3)) O:=by
 have h1:=gw B;have r:aH 2 (aj gIx (aa 1) (mC (.int 0))) [some (.ob t),some (dN n),none,none,none,none,none] O=.nx [some (.ob t),some (dN n),some (.int n.1),none,none,none,none] O:=rfl;have y:bO "Leaps" "last_at" eX (aa 0) au [some (.ob t),some (dN n),some (.int n.1),none,none,none,none] O=.ok (.int ((l.length:Int)+1)) O:=(iu rfl c rfl rfl).trans (uR c);have t1:aB (aj gEq (aa 2) (bO "Leaps" "last_at" eX (aa 0) au)) [some (.ob t),some (dN n),some (.int n.1),none,none,none,none] O=.ok (decide (n.1=(l.length:Int)+1)) O:=kE rfl y;show bh (tL [some (.ob t),some (dN n),none,none,none,none,none] O)=_
 unfold tL lmv;rw[sq r]
 by_cases h:n.1=(l.length:Int)+1
 ·rw[zj h] at t1;rw[if_pos h,gk,ifY t1];rfl
 ·rw[ze h] at t1;rw[if_neg h,sq (ifN t1)];have j:eQ ["Leaps"] "look" (aa 0) [some (.ob t),some (dN n),some (.int n.1),none,none,none,none] O=.ok (.lst (l.map dL)) O:=uH (n:=t) rfl c zg rfl;have f:=qm j;rw[zf] at f
  have m:n.1.toNat=a:=by omega
  have q:mIf (aB (aj gLt (aa 2) (bK cR (ak (eQ ["Leaps"] "look" (aa 0)) au)))) (aG iM (ak (mC (.str [115,105,103,110])) (ak (aj gIx (aj gIx (eQ ["Leaps"] "look" (aa 0)) (aa 2)) (mC (.int 0))) au))) (mC (.str [])) [some (.ob t),some (dN n),some (.int n.1),none,none,none,none] O=.ok (.str (sg l n.1.toNat)) O:=by
   rw[nj,Be (i:=n.1) rfl f,aR,m];unfold sg
   by_cases d:a<l.length
   ·rw[zj (by omega),if_pos rfl,zu d];exact(cg (maS (x:=.str bN) rfl (ma1 (bf (x:=dL l[a]) (z:=st l[a].1) (bf j rfl (by rw[j6,jD,h1];exact Ka (zu d))) rfl rfl)))).trans (Yc _ O)
   ·rw[ze (by omega),if_neg zh,jj (by omega)];rfl
  rw[sq (bU q)];show bh (aC _ _ [some (.ob t),some (dN n),some (.int n.1),some (.str (sg l n.1.toNat)),none,none,none] O)=_;rw[sq (show aH 4 (bA au) [some (.ob t),some (dN n),some (.int n.1),some (.str (sg l n.1.toNat)),none,none,none] O=.nx [some (.ob t),some (dN n),some (.int n.1),some (.str (sg l n.1.toNat)),some (.lst []),none,none] O from rfl)]
  have u:bO "Leaps" "nodes_at" j9 (aa 0) (ak (aj aD (aa 2) (mC (.int 1))) au) [some (.ob t),some (dN n),some (.int n.1),some (.str (sg l n.1.toNat)),some (.lst []),none,none] O=.ok (.lst ((nds l cs (n.1.toNat+1)).map dN)) O:=by
   refine(iu (ds:=[.int ((n.1.toNat+1:Nat):Int)]) rfl c rfl (ma1 ((iT (i:=n.1) rfl rfl).trans ?_))).trans (Kc c g (by omega));congr 2;omega
  have C:(nds l cs (n.1.toNat+1)).length<=100:=by
   unfold nds
   split
   ·show 1<=100;decide
   ·split
    ·split
     ·rw[zf];exact g
     ·show 1<=100;decide
    ·exact Nat.zero_le _
  obtain⟨F,E,e⟩:=Kd (O:=O) n (sg l n.1.toNat) (J9 _ _) (some (.ob t)) (some (.int n.1)) (nds l cs (n.1.toNat+1)) [] none none (by rw[zT];omega);unfold uT at e;rw[gk,lU,iw u,lV,e,nu,zK,zL];rfl
theorem Zh(a:O[t]?=some (.ins "Leaps" (lfs l cs)))(n:Nd):iR [.ob t,dN n] O=.ok (.bl (fJ l n)) O:=by
 have c:bO "Leaps" "last_at" eX (aa 0) au [some (.ob t),some (dN n)] O=.ok (.int ((l.length:Int)+1)) O:=(iu rfl a rfl rfl).trans (uR a);show bh (tO [some (.ob t),some (dN n)] O)=_;unfold tO;rw[dW,bf (g:=gEq) (x:=.int n.1) (z:=.bl (decide (n.1=(l.length:Int)+1))) (bf (x:=dN n) (z:=.int n.1) rfl rfl rfl) c rfl];rfl
end
theorem uU(t:Nat){l:List L3}{cs:List Nat}(hl:l.length<=250)(hc:cs.length<=10)(hcn:cs.Nodup):Trl t (lfs l cs) (l.length+1) (nds l cs) (lmv l cs) (fJ l) where
 na:=λO a ht ha=>Kc ht (by omega) ha
 mf:=λO a n ht ha hn=>Zg ht (by omega) ha hn
 ie:=λO a n ht _ _=>Zh ht n
 la:=λO ht=>uR ht
 fi:=λO ht=>rfl
 f0:=by
  unfold nds;rw[if_pos (.inl rfl)];exact zg
 nd:=λa=>by
  unfold nds
  split
  ·exact List.pairwise_singleton _ _
  ·split
   ·split
    ·refine List.Pairwise.map _ (R:=λa b=>a≠b) (λa b h z=>h ?_) hcn;exact congrArg (λn:Nd=>n.2.1) z
    ·exact List.pairwise_singleton _ _
   ·exact List.nodup_nil
 ln:=λa=>by
  unfold nds
  split
  ·show 1<=10;decide
  ·split
   ·split
    ·rw[zf];exact hc
    ·show 1<=10;decide
   ·exact Nat.zero_le _
 fw:=λa n ha hn m hm=>by
  have h1:=gw hn;unfold lmv at hm;split at hm
  ·cases hm
  ·rename_i hne;obtain⟨b,hb,rfl⟩:=zy.mp hm
   have ta:n.1.toNat=a:=by omega
   rw[ta] at hb;exact⟨a+1,by omega,by omega,hb⟩
 sp:=λa b n h1 h2=>by
  have:=gw h1
  have:=gw h2
  omega
 ml:=λn=>by
  unfold lmv
  split
  ·exact Nat.zero_le _
  ·rw[zf];unfold nds
   split
   ·show 1<=1000;decide
   ·split
    ·split
     ·rw[zf];omega
     ·show 1<=1000;decide
    ·exact Nat.zero_le _
 fe:=λn h=>by
  unfold lmv;rw[if_pos (zU h)]
 u1:=rfl
 u2:=rfl
 u3:=rfl
 u4:=rfl
 u5:=rfl
 hN:=by omega
theorem Ke:∀(n m:Nat) (t:List Nat),t.length<=n->t.length<=m->kvf n t=kvf m t
 | 0,m,t,h,_=>by
  cases t with
  |nil=>cases m<;>rfl
  |cons c t=>simp at h
 |n+1,0,t,_,h=>by
  cases t with
  |nil=>rfl
  |cons c t=>simp at h
 |n+1,m+1,[],_,_=>rfl
 |n+1,m+1,c::r,h,h'=>by
  simp only[zv] at h h';show _::_=_::_;rw[Ke n m _ (by rw[List.length_drop];omega) (by rw[List.length_drop];omega)]
def kv(t:List Nat):List (List Nat×List Nat):=kvf t.length t
theorem qF(c:Nat)(r:List Nat):kv (c::r)=((one c r).1,(one c r).2.1)::kv (r.drop (one c r).2.2):=by
 show((one c r).1,(one c r).2.1)::kvf r.length (r.drop (one c r).2.2)=_;unfold kv;rw[Ke r.length (r.drop (one c r).2.2).length _ (by rw[List.length_drop];omega) (zc _)]
theorem Zi(r:List Nat):kv (91::93::r)=(fV,[])::kv r:=by
 rw[qF];rfl
theorem Zj{c:Nat}(h:col c=true)(r:List Nat):kv (91::c::93::r)=(dO,[c])::kv r:=by
 have q:=sU h
 have e:one 91 (c::93::r)=(dO,[c],2):=by
  show(if c=93 then _ else if c=91 then _ else if col c=true then iK c (93::r) else _)=_;rw[if_neg q.2.1,if_neg q.1,if_pos h];rfl
 rw[qF,e];rfl
theorem Zk{c:Nat}(h:col c=true)(r:List Nat):kv (91::47::c::93::r)=(dX,[c])::kv r:=by
 have e:one 91 (47::c::93::r)=(dX,[c],3):=by
  show(if col c=true then j8 c (93::r) else _)=_;rw[if_pos h];rfl
 rw[qF,e];rfl
theorem Zm{c:Nat}(h:32<=c)(r:List Nat):kv (sgn c++r)=(bN,[c])::kv r:=by
 unfold sgn
 by_cases a:c=91
 ·subst a;rw[if_pos rfl];show kv (91::91::r)=_;rw[qF];rfl
 ·rw[if_neg a];show kv (c::r)=_
  have e:one c r=(bN,[c],0):=by
   unfold one;rw[if_neg (by omega),if_neg (by omega),if_neg a]
  rw[qF,e];rfl
theorem Zn(r:List (List Nat×List Nat))(i g:List Nat)(acc:List D):shF ((fV,[])::r) i g acc=shF r [46] [46] acc:=by
 rw[qw (by decide)];rfl
theorem Zo(c:Nat)(r:List (List Nat×List Nat))(i g:List Nat)(acc:List D):shF ((dO,[c])::r) i g acc=shF r [c] g acc:=by
 rw[qw (by decide)];rfl
theorem Zq(c:Nat)(r:List (List Nat×List Nat))(i g:List Nat)(acc:List D):shF ((dX,[c])::r) i g acc=shF r i [c] acc:=by
 rw[qw (by decide)];rfl
theorem Zr(c:Nat)(r:List (List Nat×List Nat))(i g:List Nat)(acc:List D):shF ((bN,[c])::r) i g acc=shF r i g (acc++[.tup [.str [c],.str (shI [c] i),.str g]]):=by
 rw[qw (by decide)];rfl
theorem Kf(p:Nat×Nat){c:Nat}(h:col c=true)(r:List Nat)(g:List Nat)(acc:List D):shF (kv (mi p c++r)) [p.1] g acc=shF (kv r) [c] g acc:=by
 unfold mi
 by_cases e:p.1=c
 ·rw[if_pos e,e];rfl
 ·rw[if_neg e];show shF (kv (91::c::93::r)) [p.1] g acc=_;rw[Zj h,Zo]
theorem Kg(p:Nat×Nat){c:Nat}(h:col c=true)(r:List Nat)(i:List Nat)(acc:List D):shF (kv (mg' p c++r)) i [p.2] acc=shF (kv r) i [c] acc:=by
 unfold mg'
 by_cases e:p.2=c
 ·rw[if_pos e,e];rfl
 ·rw[if_neg e];show shF (kv (91::47::c::93::r)) i [p.2] acc=_;rw[Zk h,Zq]
theorem Zt(p:Nat×Nat){q:Nat×Nat}(h1:col q.1=true)(h2:col q.2=true)(r:List Nat)(acc:List D):shF (kv (mb p q++r)) [p.1] [p.2] acc=shF (kv r) [q.1] [q.2] acc:=by
 unfold mb
 split
 ·unfold mbA;rw[zE,zE];show shF (kv (91::93::(mi (46,46) q.1++(mg' (46,46) q.2++r)))) [p.1] [p.2] acc=_;rw[Zi,Zn];exact(Kf (46,46) h1 _ [46] acc).trans (Kg (46,46) h2 r [q.1] acc)
 ·unfold mbS;rw[zE,Kf p h1,Kg p h2]
theorem ou{c:Nat}(h:col c=true):32<=c/\c<=125:=by
 have:c∈[97,98,99,100,101,102,103,104,46]:=zU h
 have q:∀c∈[97,98,99,100,101,102,103,104,46],32<=c/\c<=125:=by decide
 exact q c this
theorem Kh(p:Nat×Nat){c:Nat}(h:col c=true):∀x∈mi p c,32<=x/\x<=125:=by
 unfold mi
 split
 ·intro x a;cases a
 ·intro x a
  have:=ou h
  simp at a
  omega
theorem Kl(p:Nat×Nat){c:Nat}(h:col c=true):∀x∈mg' p c,32<=x/\x<=125:=by
 unfold mg'
 split
 ·intro x a;cases a
 ·intro x a
  have:=ou h
  simp at a
  omega
theorem Km(p:Nat×Nat){q:Nat×Nat}(h1:col q.1=true)(h2:col q.2=true):∀x∈mb p q,32<=x/\x<=125:=by
 intro x a;unfold mb at a;split at a
 ·unfold mbA at a
  rcases zC.mp a with a | a
  ·rcases zC.mp a with a | a
   ·simp at a
    omega
   ·exact Kh _ h1 x a
  ·exact Kl _ h2 x a
 ·unfold mbS at a
  rcases zC.mp a with a | a
  ·exact Kh _ h1 x a
  ·exact Kl _ h2 x a
theorem Zu{c:Nat}(h:32<=c/\c<=125):∀x∈sgn c,32<=x/\x<=125:=by
 unfold sgn
 split
 ·intro x a;simp at a;omega
 ·intro x a;simp at a;omega
def txt(ms:List M3):List Nat:=(ms.map (·.name)).flatten
theorem By(m:M3)(ms:List M3):txt (m::ms)=m.name++txt ms:=rfl
structure LkT(l:List L3)(cs:List Nat):Prop where
 ll:l.length<=250
 lo:∀x∈l,OkL x
 cl:cs.length<=10
 cn:cs.Nodup
 cc:∀c∈cs,col c=true
 c0:cs≠[]
 li:∀x∈l,col x.2.1=true
 lg:∀x∈l,col x.2.2=true
theorem Ko{l:List L3}{cs:List Nat}(h:LkT l cs){a:Nat}{n:Nd}(d:n∈nds l cs a):col n.2.1=true/\col n.2.2=true:=by
 unfold nds at d;split at d
 ·rw[zw.mp d];exact⟨rfl,rfl⟩
 ·split at d
  ·rename_i x g;have f:=zJ g;split at d
   ·obtain⟨c,j,rfl⟩:=zy.mp d;exact⟨h.cc c j,h.lg x f⟩
   ·rw[zw.mp d];exact⟨h.li x f,h.lg x f⟩
  ·cases d
theorem BJ{l:List L3}{cs:List Nat}(h:LkT l cs){ps:Tb}:∀(ms:List M3) (a:Nat) (n:Nd) (acc:List D),a<=l.length+1->n∈nds l cs a->Wy ps (lmv l cs) (fJ l) n ms->shF (kv (txt ms)) [n.2.1] [n.2.2] acc=some (acc++(l.drop a).map dL)/\(txt ms).length<=11 * (l.length+1 - a)/\∀x∈txt ms,32<=x/\x<=125
 | [],a,n,acc,ha,hn,w=>by
  have h1:=gw hn;have G:n.1=(l.length:Int)+1:=zU w
  have e:a=l.length+1:=by omega
  unfold nds at hn;rw[if_pos (.inr e)] at hn;rw[zw.mp hn,List.drop_eq_nil_of_le (by omega),zQ,zX];exact⟨rfl,Nat.zero_le _,λx g=>(nomatch g)⟩
 |m::ms,a,n,acc,ha,hn,⟨G,hm,_,w⟩=>by
  have h1:=gw hn;have E:¬n.1=(l.length:Int)+1:=of_decide_eq_false G;unfold lmv at hm;rw[if_neg E] at hm;obtain⟨b,f,rfl⟩:=zy.mp hm
  have F:n.1.toNat=a:=by omega
  rw[F] at f
  have J:a<l.length+1:=by omega
  obtain⟨C,B⟩:=Ko h f;have L:=J6 n.2 b.2;have ls:=J9 l a;rw[By];show shF (kv ((mb n.2 b.2++sg l n.1.toNat)++txt ms)) [n.2.1] [n.2.2] acc=_/\((mb n.2 b.2++sg l n.1.toNat)++txt ms).length<=_/\∀x∈(mb n.2 b.2++sg l n.1.toNat)++txt ms,_;rw[F,zE,Zt n.2 C B]
  by_cases r:a<l.length
  ·have g:l[a]?=some l[a]:=zu r;have ok:=h.lo _ (ji r);have hd:l.drop a=l[a]::l.drop (a+1):=List.drop_eq_getElem_cons r
   generalize l[a]=x at g ok hd
   have u:sg l a=sgn x.1:=by unfold sg;rw[g]
   rw[u] at ls ⊢;obtain⟨q,H,j⟩:=BJ h ms (a+1) b (acc++[dL x]) (by omega) f w
   have I:D.tup [.str [x.1],.str (shI [x.1] [b.2.1]),.str [b.2.2]]=dL x:=by
    unfold nds at f;rw[if_neg (by omega),Nat.add_sub_cancel,g] at f;dsimp only at f;unfold shI
    by_cases h3:x.1=32
    ·rw[if_pos h3] at f;obtain⟨c,_,rfl⟩:=zy.mp f;rw[if_pos (by rw[h3])];show D.tup [.str [x.1],.str [46],.str [x.2.2]]=.tup [.str [x.1],.str [x.2.1],.str [x.2.2]];rw[ok.2 h3]
    ·rw[if_neg h3] at f;rw[zw.mp f,if_neg (λz=>h3 (by injection z))];rfl
   rw[Zm ok.1.1,Zr,I,q,hd,zd,zE];refine⟨rfl,?_,λy d=>?_⟩
   ·rw[zn,zn];omega
   ·rcases zC.mp d with d | d
    ·exact Km _ C B y d
    ·rcases zC.mp d with d | d
     ·exact Zu ok.1 y d
     ·exact j y d
  ·obtain⟨q,H,j⟩:=BJ h ms (a+1) b acc (by omega) f w
   have u:sg l a=[]:=by unfold sg;rw[jj (by omega)]
   rw[u,zK,q,List.drop_eq_nil_of_le (by omega),List.drop_eq_nil_of_le (by omega)];refine⟨rfl,?_,λy d=>?_⟩
   ·rw[zn];omega
   ·rcases zC.mp d with d | d
    ·exact Km _ C B y d
    ·exact j y d
section
variable {t:Nat}{fs:List (Str×D)}{N:Nat}{nodes:Nat->List Nd}{mv:Nd->List M3}{fin:Nd->Bool}
theorem Zv(T:Trl t fs N nodes mv fin){ps c:Tb}(h:Pri N nodes mv fin 0 ps)(h':Pri N nodes mv fin 0 c):∀(k a:Nat) (n:Nd),a+k=N->n∈nodes a->lk c n=lk ps n:=by
 intro k
 induction k using Nat.strongRecOn with
 | _ k ih =>
  intro a n j d
  have e:lc c (mv n)=lc ps (mv n):=uM λm f=>by
   obtain⟨b,q,l,g⟩:=T.fw a n (by omega) d m f;exact ih (N - b) (by omega) b m.other (by omega) g
  rw[h a (Nat.zero_le _) (by omega) n d,h' a (Nat.zero_le _) (by omega) n d];unfold fnl;dsimp only;rw[e]
theorem Kp{α:Type}{f g:α->Bool}:∀{l:List α},(∀x∈l,f x=g x)->l.find? f=l.find? g
 | [],_=>rfl
 |x::l,h=>by
  rw[List.find?_cons,List.find?_cons,h x zg,Kp λy a=>h y (zq _ a)]
theorem Kq(T:Trl t fs N nodes mv fin){ps c:Tb}(h:Pri N nodes mv fin 0 ps)(h':Pri N nodes mv fin 0 c):∀(ms d:List M3) (a:Nat) (n:Nd),a<=N->n∈nodes a->Wy ps mv fin n ms->Wy c mv fin n d->d=ms
 | [],[],_,_,_,_,_,_=>rfl
 | [],m'::d,a,n,_,_,w,w'=>by
  have l:fin n=true:=w;have f:fin n=false:=w'.1;rw[l] at f;cases f
 |m::ms,[],a,n,_,_,w,w'=>by
  have l:fin n=true:=w';have f:fin n=false:=w.1;rw[l] at f;cases f
 |m::ms,m'::d,a,n,ha,hn,⟨_,hm,f1,w⟩,⟨_,hm',f2,w'⟩=>by
  have g:∀x∈mv n,lk c x.other=lk ps x.other:=λx j=>by
   obtain⟨b,B,r,q⟩:=T.fw a n ha hn x j;exact Zv T h h' (N - b) b x.other (by omega) q
  have e:lc c (mv n)=lc ps (mv n):=uM g
  have y:(mv n).find? (λm=>decide (co c m=lc c (mv n)))=(mv n).find? (λm=>decide (co ps m=lc ps (mv n))):=Kp λx j=>by
   have:co c x=co ps x:=by
    unfold co;rw[g x j]
   rw[this,e]
  rw[y,f1] at f2;have u:=zz f2;subst u;obtain⟨b,B,r,q⟩:=T.fw a n ha hn m hm;rw[Kq T h h' ms d b m.other r q w w']
end
theorem Zw{l:List L3}{cs:List Nat}(h:LkT l cs)(a:Nat)(c:a<=l.length+1):nds l cs a≠[]:=by
 unfold nds
 split
 ·exact List.cons_ne_nil _ _
 ·rw[zu (show a - 1<l.length by omega)];dsimp only
  split
  ·intro z;exact h.c0 (List.map_eq_nil_iff.mp z)
  ·exact List.cons_ne_nil _ _
theorem Kr{l:List L3}{cs:List Nat}(h:LkT l cs)(a:Nat)(n:Nd)(g:a<=l.length+1)(d:n∈nds l cs a)(f:fJ l n=false):lmv l cs n≠[]:=by
 have h1:=gw d;have c:¬n.1=(l.length:Int)+1:=of_decide_eq_false f;unfold lmv;rw[if_neg c];intro z;exact Zw h (n.1.toNat+1) (by omega) (List.map_eq_nil_iff.mp z)
theorem Ks:∀ms:List M3,iJ (ms.map λm=>D.str m.name)=some (ms.map (·.name))
 | []=>rfl
 |m::ms=>by
  show(iJ (ms.map λm=>D.str m.name)).map (m.name :: ·)=_;rw[Ks ms];rfl
theorem Ku:∀ms:List M3,((ms.map (·.name)).map List.length).sum=(txt ms).length
 | []=>rfl
 |m::ms=>by
  rw[By,zn,<-Ku ms];rfl
def Kv(l:List L3):List (Str×D):=[("look",.lst (l.map dL))]
theorem pfl(l:List L3):putD "look" (.lst (l.map dL)) []=Kv l:=rfl
theorem Zx(O:aq){l:List L3}{cs:List Nat}(a:∀O,nQ [.lst (l.map dL),.int 1] O=.ok (.lst (cs.map st)) O):qg [.ob O.length,.lst (l.map dL)] (O++[.ins "Leaps" []])=.ok .non (O++[.ins "Leaps" (lfs l cs)]):=by
 show bh (t8 [some (.ob O.length),some (.lst (l.map dL))] (O++[.ins "Leaps" []]))=_;unfold t8;rw[sq (Jm (n:=O.length) (c:="Leaps") (fs:=[]) (Jp (d:=.lst (l.map dL)) rfl rfl) rfl Bl zg (by decide)),Jo,pfl];rw[Jm (n:=O.length) (c:="Leaps") (fs:=Kv l) ((cg (maS rfl (ma1 rfl))).trans (a _)) rfl Bl zg (by show 1<900;decide),Jo];rfl
def mbl(p q:Nat×Nat):Nat:=(mb p q).length
def dI(a b:Nat):Nat:=if a=b then 0 else 3
def dG(a b:Nat):Nat:=if a=b then 0 else 4
def cA(q:Nat×Nat):Nat:=2+dI 46 q.1+dG 46 q.2
def cS(p q:Nat×Nat):Nat:=dI p.1 q.1+dG p.2 q.2
theorem Kw(p:Nat×Nat)(c:Nat):(mi p c).length=dI p.1 c:=by unfold mi dI;split<;>rfl
theorem Ky(p:Nat×Nat)(c:Nat):(mg' p c).length=dG p.2 c:=by unfold mg' dG;split<;>rfl
theorem oA(q:Nat×Nat):(mbA q).length=cA q:=by
 unfold mbA cA;rw[zn,zn,Kw,Ky];rfl
theorem oE(p q:Nat×Nat):(mbS p q).length=cS p q:=by
 unfold mbS cS;rw[zn,Kw,Ky]
theorem Kz(p q:Nat×Nat):mbl p q<=cA q:=by
 unfold mbl mb;rw[oA,oE]
 split
 ·rw[oA];exact zc _
 ·rw[oE];omega
theorem BK(p q:Nat×Nat):mbl p q<=cS p q:=by
 unfold mbl mb;rw[oA,oE]
 split
 ·rw[oA];omega
 ·rw[oE];exact zc _
theorem BL(p q:Nat×Nat):mbl p q=cA q\/mbl p q=cS p q:=by
 unfold mbl mb
 split
 ·exact .inl (oA q)
 ·exact .inr (oE p q)
theorem BP(a b:Nat):dI a b<=3:=by unfold dI;split<;>omega
theorem BR(a b:Nat):dG a b<=4:=by unfold dG;split<;>omega
theorem KD(a b c:Nat):dI a c<=dI a b+dI b c:=by
 by_cases h1:a=b
 ·subst h1;have:dI a a=0:=by unfold dI;rw[if_pos rfl]
  omega
 ·have:dI a b=3:=by unfold dI;rw[if_neg h1]
  have:=BP a c
  omega
theorem KH(a b c:Nat):dG a c<=dG a b+dG b c:=by
 by_cases h1:a=b
 ·subst h1;have:dG a a=0:=by unfold dG;rw[if_pos rfl]
  omega
 ·have:dG a b=4:=by unfold dG;rw[if_neg h1]
  have:=BR a c
  omega
theorem BV(p q:Nat×Nat):mbl p q<=7:=by
 have:=BK p q
 unfold cS at this
 have:=BP p.1 q.1
 have:=BR p.2 q.2
 omega
theorem KJ(p q r:Nat×Nat):mbl p r<=mbl p q+mbl q r:=by
 have a1:=Kz p r;have a2:=BK p r
 rcases BL q r with h | h
 ·omega
 ·rcases BL p q with h2 | h2
  ·have t1:=KD 46 q.1 r.1;have t2:=KH 46 q.2 r.2;unfold cA cS at *;omega
  ·have t1:=KD p.1 q.1 r.1;have t2:=KH p.2 q.2 r.2;unfold cS at *;omega
theorem KQ(f:Nat->Nat)(a b:Nat):dI (f a) (f b)<=dI a b:=by
 by_cases h:a=b
 ·subst h;unfold dI;rw[if_pos rfl,if_pos rfl];exact zc _
 ·have:dI a b=3:=by unfold dI;rw[if_neg h]
  have:=BP (f a) (f b)
  omega
theorem KR(f:Nat->Nat)(a b:Nat):dG (f a) (f b)<=dG a b:=by
 by_cases h:a=b
 ·subst h;unfold dG;rw[if_pos rfl,if_pos rfl];exact zc _
 ·have:dG a b=4:=by unfold dG;rw[if_neg h]
  have:=BR (f a) (f b)
  omega
def fp(f g:Nat->Nat)(p:Nat×Nat):Nat×Nat:=(f p.1,g p.2)
theorem KY{f g:Nat->Nat}(c:f 46=46)(a:g 46=46)(p q:Nat×Nat):mbl (fp f g p) (fp f g q)<=mbl p q:=by
 have a1:=Kz (fp f g p) (fp f g q);have a2:=BK (fp f g p) (fp f g q)
 rcases BL p q with h | h
 ·have t1:=KQ f 46 q.1;have t2:=KR g 46 q.2;rw[c] at t1;rw[a] at t2;unfold cA fp at *;dsimp only at *;omega
 ·have t1:=KQ f p.1 q.1;have t2:=KR g p.2 q.2;unfold cS fp at *;dsimp only at *;omega
def Shw(x:L3)(q:Nat×Nat):Prop:=q.2=x.2.2/\(x.1=32\/q.1=x.2.1)
def PC(S:L3->Nat×Nat->Prop):List L3->Nat×Nat->Nat->Prop
 | [],p,c=>c=mbl p (46,46)
 |x::l,p,c=>∃q,S x q/\∃a,PC S l q a/\c=mbl p q+a
theorem BW{S S':L3->Nat×Nat->Prop}{f g:Nat->Nat}(d:f 46=46)(a:g 46=46)(m:L3->L3):∀(l:List L3) (p:Nat×Nat) (c:Nat),(∀x∈l,∀q,S x q->S' (m x) (fp f g q))->PC S l p c->∃n,n<=c/\PC S' (l.map m) (fp f g p) n
 | [],p,c,_,h=>by
  have e:fp f g (46,46)=(46,46):=by unfold fp;rw[d,a]
  refine⟨mbl (fp f g p) (46,46),?_,rfl⟩
  have:=KY d a p (46,46)
  rw[e] at this;have h':c=mbl p (46,46):=h;omega
 |x::l,p,c,hS,⟨q,hq,c1,h1,e⟩=>by
  obtain⟨j,h2,h3⟩:=BW d a m l q c1 (λy r=>hS y (zq _ r)) h1
  have:=KY d a p q
  exact⟨mbl (fp f g p) (fp f g q)+j,by omega,fp f g q,hS x zg q hq,j,h3,rfl⟩
theorem KZ{S S':L3->Nat×Nat->Prop}:∀(l:List L3) (p:Nat×Nat) (c:Nat),(∀x∈l,∀q,S x q->S' x q)->PC S l p c->PC S' l p c
 | [],p,c,_,h=>h
 |x::l,p,c,hS,⟨q,hq,c1,h1,e⟩=>⟨q,hS x zg q hq,c1,KZ l q c1 (λy a=>hS y (zq _ a)) h1,e⟩
theorem K8{S:L3->Nat×Nat->Prop}(x:L3)(b:List L3):∀(a:List L3) (p:Nat×Nat) (c:Nat),PC S (a++x::b) p c->∃f,f<=c/\PC S (a++b) p f
 | [],p,c,⟨q,hq,c1,h1,e⟩=>by
  cases b with
  |nil =>
   have h1':c1=mbl q (46,46):=h1
   have:=KJ p q (46,46)
   exact⟨mbl p (46,46),by omega,rfl⟩
  |cons y b =>
   obtain⟨r,g,d,h2,j⟩:=h1
   have:=KJ p q r
   exact⟨mbl p r+d,by omega,r,g,d,h2,rfl⟩
 |y::a,p,c,⟨q,hq,c1,h1,e⟩=>by
  obtain⟨d,h2,h3⟩:=K8 x b a q c1 h1;exact⟨mbl p q+d,by omega,q,hq,d,h3,rfl⟩
theorem K9{S:L3->Nat×Nat->Prop}{x x':L3}(d:∀q,S x q->S x' q)(b:List L3):∀(a:List L3) (p:Nat×Nat) (c:Nat),PC S (a++x::b) p c->PC S (a++x'::b) p c
 | [],p,c,⟨q,hq,c1,h1,e⟩=>⟨q,d q hq,c1,h1,e⟩
 |y::a,p,c,⟨q,hq,c1,h1,e⟩=>⟨q,hq,c1,K9 d b a q c1 h1,e⟩
theorem La{S:L3->Nat×Nat->Prop}{x:L3}{q0:Nat×Nat}(f:S x q0)(b:List L3):∀(a:List L3) (p:Nat×Nat) (c:Nat),PC S (a++b) p c->∃g,g<=c+14/\PC S (a++x::b) p g
 | [],p,c,h=>by
  have l:=BV p q0
  cases b with
  |nil =>
   have:=BV q0 (46,46)
   exact⟨mbl p q0+mbl q0 (46,46),by omega,q0,f,_,rfl,rfl⟩
  |cons y b =>
   obtain⟨r,j,d,h2,m⟩:=h
   have:=BV q0 r
   exact⟨mbl p q0+(mbl q0 r+d),by omega,q0,f,_,⟨r,j,d,h2,rfl⟩,rfl⟩
 |y::a,p,c,⟨q,hq,c1,h1,e⟩=>by
  obtain⟨d,h2,h3⟩:=La f b a q c1 h1;exact⟨mbl p q+d,by omega,q,hq,d,h3,rfl⟩
theorem Lb:∀l:List L3,PC Shw (l.map λx:L3=>(x.1,46,46)) (46,46) 0
 | []=>rfl
 |x::l=>⟨(46,46),⟨rfl,.inr rfl⟩,0,Lb l,rfl⟩
def Lst(l:List L3)(c:Nat):Prop:=PC Shw l (46,46) c/\∀a,PC Shw l (46,46) a->c<=a
theorem BX:∀(l:List Int) (b:Option Int) (c:Int),mdI b l=some c->(∀x∈l,c<=x)/\∀y,b=some y->c<=y
 | [],b,c,h=>⟨λx a=>(nomatch a),λy d=>by
  have h':b=some c:=by cases b<;>exact h
  rw[d] at h'
  have:=zz h'
  omega⟩
 |n::r,none,c,h=>by
  obtain⟨h1,h2⟩:=BX r (some n) c h;refine⟨λx a=>?_,λy d=>(nomatch d)⟩
  rcases zp.mp a with rfl | a
  ·exact h2 _ rfl
  ·exact h1 x a
 |n::r,some m,c,h=>by
  obtain⟨h1,h2⟩:=BX r (some (if n<m then n else m)) c h;have h3:=h2 _ rfl;refine⟨λx a=>?_,λy d=>?_⟩
  ·rcases zp.mp a with rfl | a
   ·split at h3<;>omega
   ·exact h1 x a
  ·have:=zz d
   split at h3<;>omega
def ShC(cs:List Nat)(x:L3)(q:Nat×Nat):Prop:=Shw x q/\(x.1=32->q.1∈cs)
theorem Ld{l:List L3}{cs:List Nat}{a:Nat}{x:L3}(g:l[a]?=some x){q:Nat×Nat}:(((a+1:Nat):Int),q)∈nds l cs (a+1)↔ShC cs x q:=by
 have m:=(zr.mp g).1;unfold nds ShC Shw;rw[if_neg (by omega),Nat.add_sub_cancel,g];dsimp only
 by_cases h:x.1=32
 ·rw[if_pos h];constructor
  ·intro f;obtain⟨c,j,e⟩:=zy.mp f;have d:=congrArg Prod.snd e;dsimp only at d;rw[<-d];exact⟨⟨rfl,.inl h⟩,λ_=>j⟩
  ·rintro⟨⟨h1,_⟩,h3⟩;refine zy.mpr ⟨q.1,h3 h,?_⟩;rw[<-h1]
 ·rw[if_neg h];constructor
  ·intro f;have e:=zw.mp f;have d:=congrArg Prod.snd e;dsimp only at d;rw[d];exact⟨⟨rfl,.inr rfl⟩,λz=>absurd z h⟩
  ·rintro⟨⟨h1,h2⟩,_⟩
   rcases h2 with h2 | h2
   ·exact absurd h2 h
   ·rw[<-h1,<-h2];exact zg
theorem BZ(l:List L3)(cs:List Nat):nds l cs (l.length+1)=[(((l.length+1:Nat):Int),(46,46))]:=by
 unfold nds;rw[if_pos (.inr rfl)]
section
variable {l:List L3}{cs:List Nat}{ps:Tb}
theorem Le(a:Pri (l.length+1) (nds l cs) (lmv l cs) (fJ l) 0 ps):lk ps (((l.length+1:Nat):Int),(46,46))=some (some 0):=by
 rw[a (l.length+1) (Nat.zero_le _) (zc _) _ (by rw[BZ];exact zg)];unfold fnl fJ;rw[if_pos (zj (by omega))]
theorem Ca(d:Pri (l.length+1) (nds l cs) (lmv l cs) (fJ l) 0 ps){a:Nat}(f:a<=l.length){n:Nd}(c:n∈nds l cs a):lk ps n=some (lc ps (lmv l cs n)):=by
 have h1:=gw c;rw[d a (Nat.zero_le _) (by omega) n c];unfold fnl fJ;rw[if_neg (by rw[ze (by omega)];exact zh)]
theorem Lf{a:Nat}(f:a<=l.length){n b:Nd}(c:n∈nds l cs a)(d:b∈nds l cs (a+1)):(⟨(mbl n.2 b.2:Int),mb n.2 b.2++sg l n.1.toNat,b⟩:M3)∈lmv l cs n:=by
 have h1:=gw c;unfold lmv;rw[if_neg (by omega)];refine zy.mpr ⟨b,?_,rfl⟩;rw[show n.1.toNat=a by omega];exact d
theorem Lg{m:M3}{ms:List M3}{c b:Int}(f:lc ps ms=some c)(d:m∈ms)(g:lk ps m.other=some (some b)):c<=m.cost+b:=by
 have a:co ps m=some (m.cost+b):=by unfold co;rw[g]
 exact(BX _ _ _ f).1 _ (List.mem_filterMap.mpr ⟨m,d,a⟩)
theorem Lh(y:Pri (l.length+1) (nds l cs) (lmv l cs) (fJ l) 0 ps)(d:∀a n,a<=l.length+1->n∈nds l cs a->∃c,lk ps n=some (some c)):∀(j a:Nat) (n:Nd) (k:Nat) (c:Int),a+j=l.length->n∈nds l cs a->lk ps n=some (some c)->PC (ShC cs) (l.drop a) n.2 k->c<=k
 | 0,a,n,k,c,hj,hn,hc,f=>by
  have F:a=l.length:=by omega
  rw[List.drop_eq_nil_of_le (by omega)] at f;have r:k=mbl n.2 (46,46):=f;have m:=Ca y (by omega) hn;rw[hc] at m
  have g:(((l.length+1:Nat):Int),((46,46):Nat×Nat))∈nds l cs (a+1):=by rw[F,BZ];exact zg
  have:=Lg (zz m).symm (Lf (by omega) hn g) (Le y)
  dsimp only at this;omega
 |j+1,a,n,k,c,hj,hn,hc,f=>by
  have u:a<l.length:=by omega
  have C:l[a]?=some l[a]:=zu u;rw[List.drop_eq_getElem_cons u] at f;obtain⟨q,E,B,r,e⟩:=f;have g:=(Ld (cs:=cs) C).mpr E;obtain⟨G,x⟩:=d (a+1) _ (by omega) g;have H:=Lh y d j (a+1) _ B G (by omega) g x r;have m:=Ca y (by omega) hn;rw[hc] at m
  have:=Lg (zz m).symm (Lf (by omega) hn g) x
  dsimp only at this;omega
end
theorem Li{α:Type}{g:MG}{t:L2.M Bool}{m:L2.M D}(a:aA->Prop)(f h:α->D)(p:α->Bool):∀(xs:List α) (ρ:aA) (O:aq) (acc:List D),a ρ ->
  (∀x∈xs,∀ρ,a ρ->∃ρ1,g (f x) ρ=some ρ1/\a ρ1/\t ρ1 O=.ok (p x) O/\m ρ1 O=.ok (h x) O)->cX g t m (xs.map f) ρ O acc=.ok (acc++(xs.filter p).map h) O
 | [],ρ,O,acc,_,_=>by simp[cX]
 |x::xs,ρ,O,acc,hp,hs=>by
  obtain⟨ρ1,n,h1,l,j⟩:=hs x zg ρ hp
  have d:=λacc=>Li a f h p xs ρ1 O acc h1 λr c=>hs r (zq _ c)
  rw[zd];unfold cX;rw[n];dsimp only;rw[l]
  cases q:p x with
  |true =>
   dsimp only;rw[j];dsimp only;rw[d,List.filter_cons,q];simp
  |false =>
   dsimp only;rw[d,List.filter_cons,q];simp
def dT3(x:List Nat×List Nat×Nat):D:=.tup [.str x.1,.str x.2.1,.int (x.2.2:Nat)]
def trf:Nat->List Nat->List (List Nat×List Nat×Nat)
 | 0,_=>[]
 | _+1,[]=>[]
 |n+1,c::r=>((one c r).1,rv c r,(one c r).2.2+1)::trf n (r.drop (one c r).2.2)
theorem Lj:∀(n:Nat) (t:List Nat),lrf n t=(trf n t).map dT3
 | 0,_=>rfl
 | _+1,[]=>rfl
 |n+1,c::r=>by
  show rd c r::lrf n _=_::(trf n _).map dT3;rw[Lj n];rfl
theorem Ln:∀(n m:Nat) (t:List Nat),t.length<=n->t.length<=m->trf n t=trf m t
 | 0,m,t,h,_=>by
  cases t with
  |nil=>cases m<;>rfl
  |cons c t=>simp at h
 |n+1,0,t,_,h=>by
  cases t with
  |nil=>rfl
  |cons c t=>simp at h
 |n+1,m+1,[],_,_=>rfl
 |n+1,m+1,c::r,h,h'=>by
  simp only[zv] at h h';show _::_=_::_;rw[Ln n m _ (by rw[List.length_drop];omega) (by rw[List.length_drop];omega)]
theorem Lp:∀(n:Nat) (t:List Nat),(trf n t).length<=n/\∀x∈trf n t,x.2.2<=t.length
 | 0,_=>⟨zc _,λx a=>(nomatch a)⟩
 | _+1,[]=>⟨Nat.zero_le _,λx a=>(nomatch a)⟩
 |n+1,c::r=>by
  obtain⟨f,d⟩:=Lp n (r.drop (one c r).2.2);refine⟨Nat.succ_le_succ f,λx a=>?_⟩;rw[zv]
  rcases zp.mp a with rfl | a
  ·have:=one_le c r
   show(one c r).2.2+1<=_;omega
  ·have:=d x a
   rw[List.length_drop] at this;omega
def tr(t:List Nat):List (List Nat×List Nat×Nat):=trf t.length t
theorem Zy(c:Nat)(r:List Nat):tr (c::r)=((one c r).1,rv c r,(one c r).2.2+1)::tr (r.drop (one c r).2.2):=by
 show _::trf r.length (r.drop (one c r).2.2)=_;unfold tr;rw[Ln r.length (r.drop (one c r).2.2).length _ (by rw[List.length_drop];omega) (zc _)]
def jL(k:List Nat):Bool:=decide (k=dO) || (decide (k=dX) || decide (k=fV))
def mcs(xs:List (List Nat×List Nat×Nat)):Nat:=((xs.filter λx=>jL x.1).map λx=>x.2.2).sum
def mc(t:List Nat):Nat:=mcs (tr t)
theorem qG(c:Nat)(r:List Nat):mc (c::r)=(if jL (one c r).1=true then(one c r).2.2+1 else 0)+mc (r.drop (one c r).2.2):=by
 unfold mc mcs;rw[Zy,List.filter_cons]
 by_cases h:jL (one c r).1=true
 ·rw[if_pos h,if_pos h];rfl
 ·rw[if_neg h,if_neg h,zV]
theorem Zz(r:List Nat):mc (91::93::r)=2+mc r:=by
 rw[qG];rfl
theorem ZC{c:Nat}(h:col c=true)(r:List Nat):mc (91::c::93::r)=3+mc r:=by
 have q:=sU h
 have e:one 91 (c::93::r)=(dO,[c],2):=by
  show(if c=93 then _ else if c=91 then _ else if col c=true then iK c (93::r) else _)=_;rw[if_neg q.2.1,if_neg q.1,if_pos h];rfl
 rw[qG,e];rfl
theorem ZD{c:Nat}(h:col c=true)(r:List Nat):mc (91::47::c::93::r)=4+mc r:=by
 have e:one 91 (47::c::93::r)=(dX,[c],3):=by
  show(if col c=true then j8 c (93::r) else _)=_;rw[if_pos h];rfl
 rw[qG,e];rfl
theorem ZF{c:Nat}(h:32<=c)(r:List Nat):mc (sgn c++r)=mc r:=by
 unfold sgn
 by_cases a:c=91
 ·subst a;rw[if_pos rfl];show mc (91::91::r)=_;rw[qG];exact zV _
 ·rw[if_neg a];show mc (c::r)=_
  have e:one c r=(bN,[c],0):=by
   unfold one;rw[if_neg (by omega),if_neg (by omega),if_neg a]
  rw[qG,e];exact zV _
theorem Lq(p:Nat×Nat){c:Nat}(h:col c=true)(r:List Nat):mc (mi p c++r)=dI p.1 c+mc r:=by
 unfold mi dI
 split
 ·exact(zV _).symm
 ·exact ZC h r
theorem Lr(p:Nat×Nat){c:Nat}(h:col c=true)(r:List Nat):mc (mg' p c++r)=dG p.2 c+mc r:=by
 unfold mg' dG
 split
 ·exact(zV _).symm
 ·exact ZD h r
theorem ZG(p:Nat×Nat){q:Nat×Nat}(h1:col q.1=true)(h2:col q.2=true)(r:List Nat):mc (mb p q++r)=mbl p q+mc r:=by
 unfold mbl mb
 split
 ·rw[oA];unfold mbA cA;rw[zE,zE];show mc (91::93::(mi (46,46) q.1++(mg' (46,46) q.2++r)))=_;rw[Zz,Lq (46,46) h1,Lr (46,46) h2];show 2+(dI 46 q.1+(dG 46 q.2+mc r))=_;omega
 ·rw[oE];unfold mbS cS;rw[zE,Lq p h1,Lr p h2];omega
theorem Ls:∀xs:List Nat,(xs.map λn:Nat=>((n:Nat):Int)).sum=((xs.sum:Nat):Int)
 | []=>rfl
 |x::xs=>by
  rw[zd,List.sum_cons,List.sum_cons,Ls xs];omega
theorem ZJ(k:List Nat)(ds:List D):gIn false (.str k) (.tup ds)=if(gO (.str k)&&ds.all gO)=true then some (.bl (false ^^ ds.any λy=>eqF y (.str k))) else none:=by
 cases k with
 |nil=>rfl
 |cons c r=>cases r<;>rfl
theorem ZK(n:Nat)(t:List Nat)(F:n<=5000)(E:t.length<=5000)(O:aq):Ak [.lst (lrf n t)] O=.ok (.int (mcs (trf n t):Nat)) O:=by
 obtain⟨C,j⟩:=Lp n t
 have f:∀x∈trf n t,aB (aj (gIn false) (aa 0) (bH (ak (mC (.str [105,110,107])) (ak (mC (.str [103,114,111,117,110,100])) (ak (mC (.str [112,108,97,105,110])) au))))) [some (.str x.1),some (.str x.2.1),some (.int (x.2.2:Nat))] O=.ok (jL x.1) O:=λx _=>by
  refine dB (bf (x:=.str x.1) (y:=.tup [.str dO,.str dX,.str fV]) rfl rfl ?_)
  have e:∀k:List Nat,eqF (.str k) (.str x.1)=decide (x.1=k):=λk=>by
   show(S k == S x.1)=_;rw[Ju];exact decide_eq_decide.mpr ⟨λh=>h.symm,λh=>h.symm⟩
  show gIn false (.str x.1) (.tup [.str dO,.str dX,.str fV])=_;rw[ZJ];show some (D.bl (false ^^ ([D.str dO,.str dX,.str fV].any λy=>eqF y (.str x.1))))=_;rw[List.any_cons,List.any_cons,List.any_cons,List.any_nil,e,e,e,Bool.or_false,Bool.false_xor];rfl
 have cl:=Li (g:=gh 3 (cG (mgN 0) (cG (mgN 1) (cG (mgN 2) gJ)))) (t:=aB (aj (gIn false) (aa 0) (bH (ak (mC (.str [105,110,107])) (ak (mC (.str [103,114,111,117,110,100])) (ak (mC (.str [112,108,97,105,110])) au)))))) (m:=aa 2) (λρ=>∃a b c,ρ=[a,b,c]) dT3 (λx=>D.int (x.2.2:Nat)) (λx=>jL x.1) (trf n t) [none,none,none] O [] ⟨_,_,_,rfl⟩ (by
  rintro x d ρ ⟨a,b,c,rfl⟩
  exact⟨[some (.str x.1),some (.str x.2.1),some (.int (x.2.2:Nat))],rfl,⟨_,_,_,rfl⟩,f x d,rfl⟩)
 rw[zK] at cl;rw[Lj];have B:=kI (m:=cJ (aa 0)) (own:=3) (cap:=[]) (ρ:=[some (.lst ((trf n t).map dT3))]) (iw (l:=(trf n t).map dT3) rfl) (by rw[zf];omega) rfl cl;show bh (uB [some (.lst ((trf n t).map dT3))] O)=_;unfold uB;rw[dW,km (ma1 B) (z:=.int (mcs (trf n t):Nat)) ?_]
 ·rfl
 ·show o9 [D.lst (((trf n t).filter λx=>jL x.1).map λx=>D.int (x.2.2:Nat))]=_
  have u:(((trf n t).filter λx=>jL x.1).map λx=>D.int (x.2.2:Nat))=((((trf n t).filter λx=>jL x.1).map λx=>x.2.2).map λn:Nat=>((n:Nat):Int)).map D.int:=by
   rw[zL,zL];rfl
  rw[u];unfold o9;dsimp only;rw[ints_map];show(if _ then _ else _)=_;rw[if_pos,Ls]
  ·rfl
  ·rw[zm];refine⟨List.all_eq_true.mpr λz q=>?_,zj ?_⟩
   ·obtain⟨m,r,rfl⟩:=zy.mp q;obtain⟨x,d,rfl⟩:=zy.mp r
    have:=j x (List.mem_filter.mp d).1
    rw[zm];exact⟨zj (by omega),zj (by omega)⟩
   ·rw[zf,zf]
    have:=List.length_filter_le (λx:List Nat×List Nat×Nat=>jL x.1) (trf n t)
    omega
section
variable {l:List L3}{cs:List Nat}{ps:Tb}
theorem Lw(h:LkT l cs)(r:Pri (l.length+1) (nds l cs) (lmv l cs) (fJ l) 0 ps):∀(ms:List M3) (a:Nat) (n:Nd) (c:Int),a<=l.length->n∈nds l cs a->Wy ps (lmv l cs) (fJ l) n ms->lk ps n=some (some c)->∃k:Nat,c=(k:Int)/\PC (ShC cs) (l.drop a) n.2 k/\mc (txt ms)=k
 | [],a,n,c,I,hn,w,_=>by
  have h1:=gw hn;have H:n.1=(l.length:Int)+1:=zU w;omega
 |m::ms,a,n,c,I,hn,⟨H,hm,hfd,w⟩,hc=>by
  have h1:=gw hn;have J:=Ca r I hn;rw[hc] at J
  have d:co ps m=some c:=by
   have:=List.find?_some hfd
   have:=zU this
   rw[this];exact(zz J).symm
  have B:¬n.1=(l.length:Int)+1:=of_decide_eq_false H;unfold lmv at hm;rw[if_neg B] at hm;obtain⟨b,g,rfl⟩:=zy.mp hm
  have F:n.1.toNat=a:=by omega
  rw[F] at g;obtain⟨R,Q⟩:=Ko h g;have C:=gw g
  obtain⟨f,j,T⟩:∃f,lk ps b=some (some f)/\c=(mbl n.2 b.2:Int)+f:=by
   unfold co at d;split at d
   ·rename_i f e;exact⟨f,e,(zz d).symm⟩
   ·cases d
  rw[By];show ∃k:Nat,_/\_/\mc ((mb n.2 b.2++sg l n.1.toNat)++txt ms)=k;rw[F,zE,ZG n.2 R Q]
  by_cases q:a<l.length
  ·have G:l[a]?=some l[a]:=zu q;have ok:=h.lo _ (ji q);have hd:l.drop a=l[a]::l.drop (a+1):=List.drop_eq_getElem_cons q;obtain⟨k,W,x,P⟩:=Lw h r ms (a+1) b f (by omega) g w j
   have u:sg l a=sgn l[a].1:=by unfold sg;rw[G]
   have y:ShC cs l[a] b.2:=(Ld (cs:=cs) G).mp (by rw[<-C];exact g);refine⟨mbl n.2 b.2+k,by omega,?_,?_⟩
   ·rw[hd];exact⟨b.2,y,k,x,rfl⟩
   ·rw[u,ZF ok.1.1,P]
  ·have ha':a=l.length:=by omega
   have hb':=g;rw[ha',BZ] at hb';have L:=zw.mp hb';have O:=Le r;rw[<-L,j] at O;have U:f=0:=zz (zz O)
   have u:sg l a=[]:=by unfold sg;rw[jj (by omega)]
   have E:ms=[]:=by
    cases ms with
    |nil=>rfl
    |cons m' ms' =>
     have hf':fJ l b=false:=w.1
     have:¬b.1=(l.length:Int)+1:=of_decide_eq_false hf'
     omega
   have x:b.2=(46,46):=by rw[L]
   refine⟨mbl n.2 b.2,by omega,?_,?_⟩
   ·rw[List.drop_eq_nil_of_le (by omega),x];rfl
   ·rw[u,E];rfl
end
theorem ZL{l:List L3}{cs:List Nat}(h:LkT l cs)(L:∀x∈l,x.2.1∈cs)(B:46∈cs)(I:∀O,nQ [.lst (l.map dL),.int 1] O=.ok (.lst (cs.map st)) O):∃T:List Nat,Okt T/\shF (kv T) [46] [46] []=some (l.map dL)/\Lst l (mc T)/\∀O,∃j,ue [.lst (l.map dL)] O=.ok (.str T) j:=by
 have hl:=h.ll
 have F:∀O:aq,∃j E c d,qe [.ob O.length] (O++[.ins "Leaps" (lfs l cs)])=.ok (.tup [.int c,.lst (d.map λm=>.str m.name)]) j/\Pri (l.length+1) (nds l cs) (lmv l cs) (fJ l) 0 E/\Wy E (lmv l cs) (fJ l) (0,(46,46)) d/\lk E (0,(46,46))=some (some c):=λO=>by
  obtain⟨j,E,c,d,e1,_,e3,e4,e5⟩:=Zd (uU O.length h.ll h.cl h.cn) (Kr h) (by omega) (O:=O++[.ins "Leaps" (lfs l cs)]) Bl;exact⟨j,E,c,d,e1,e3,e5,e4⟩
 obtain⟨_,J,c0,r,_,u,y,G⟩:=F [];have h0:((0,(46,46)):Nd)∈nds l cs 0:=(uU 0 h.ll h.cl h.cn).f0;obtain⟨t1,t2,R⟩:=BJ h r 0 (0,(46,46)) [] (Nat.zero_le _) h0 y
 have hlen:(txt r).length<=5000:=by omega
 obtain⟨k,k1,Z,Y⟩:=Lw h u r 0 (0,(46,46)) c0 (Nat.zero_le _) h0 y G
 have C:∀a n,a<=l.length+1->n∈nds l cs a->∃c,lk J n=some (some c):=λa n ha hn=>J3 (uU 0 h.ll h.cl h.cn) (Kr h) u (l.length+1 - a) a n (by omega) hn
 refine⟨txt r,⟨hlen,λc I=>.inl (R c I)⟩,t1,?_,λO=>?_⟩
 ·rw[Y];refine⟨KZ l _ _ (λx _ q H=>H.1) Z,λc' hp=>?_⟩
  obtain⟨c2,q1,Q⟩:=BW (S:=Shw) (S':=ShC cs) (f:=λc=>if c∈cs then c else 46) (g:=λc=>c) (if_pos B) rfl (λx=>x) l (46,46) c' (λx hx q H=>by
   refine⟨⟨H.1,?_⟩,λ_=>?_⟩
   ·rcases H.2 with e | e
    ·exact .inl e
    ·refine .inr ?_;show(if q.1∈cs then q.1 else 46)=x.2.1;rw[e,if_pos (L x hx)]
   ·show(if q.1∈cs then q.1 else 46)∈cs
    split
    ·assumption
    ·exact B) hp
  have P:fp (λc=>if c∈cs then c else 46) (λc=>c) (46,46)=(46,46):=by
   unfold fp;dsimp only;rw[if_pos B]
  rw[P,List.map_id'] at Q
  have:=Lh u C l.length 0 (0,(46,46)) c2 c0 (zV _) h0 G Q
  omega
 obtain⟨j,E,c,d,e,hP,hW,_⟩:=F O;obtain rfl:d=r:=Kq (uU 0 h.ll h.cl h.cn) u hP r d 0 (0,(46,46)) (Nat.zero_le _) h0 y hW;refine⟨j,?_⟩
 have X:lL "Leaps" qg (ak (aa 0) au) [some (.lst (l.map dL)),none] O=.ok (.ob O.length) (O++[.ins "Leaps" (lfs l cs)]):=by
  rw[WN,ma1 (x:=.lst (l.map dL)) rfl,aR,Zx O I,WQ]
 have W:aG qe (ak (lL "Leaps" qg (ak (aa 0) au)) au) [some (.lst (l.map dL)),none] O=.ok (.tup [.int c,.lst (d.map λm=>.str m.name)]) j:=(Bg (Bf X)).trans e
 have jn:pq (aj gIx (aa 1) (mC (.int 1))) [some (.lst (l.map dL)),some (.tup [.int c,.lst (d.map λm=>.str m.name)])] j=.ok (.str (txt d)) j:=by
  unfold pq;rw[show aj gIx (aa 1) (mC (.int 1)) [some (.lst (l.map dL)),some (.tup [.int c,.lst (d.map λm=>.str m.name)])] j=.ok (.lst (d.map λm=>.str m.name)) j from rfl,aR];dsimp only[j6];rw[Ks];dsimp only;rw[if_pos (by rw[Ku];omega)];rfl
 have U:yL [.lst (l.map dL)] O=.ok (.tup [.int c,.str (txt d)]) j:=by
  show bh (uc [some (.lst (l.map dL)),none] O)=_;unfold uc;rw[sq (iV W)];show bh (aZ _ [some (.lst (l.map dL)),some (.tup [.int c,.lst (d.map λm=>.str m.name)])] j)=_;rw[dW,jK (maS (x:=.int c) rfl (ma1 jn)) (show(2:Nat)<=1000000 by decide)];rfl
 show bh (ud [some (.lst (l.map dL))] O)=_;unfold ud;rw[dW,Bh (g:=gIx) (b:=mC (.int 1)) (z:=.str (txt d)) ((Bg (Bf (x:=.lst (l.map dL)) rfl)).trans U) rfl rfl];rfl
theorem Lx{x:L3}(h1:x.1<1114112)(h2:x.2.1<1114112)(h3:x.2.2<1114112):fO (dL x)=true/\(toP (dL x)).canLay0=true/\(toP (dL x)).depth<=5:=by
 refine⟨rfl,?_,Nat.le_of_ble_eq_true rfl⟩
 have q:∀c:Nat,c<1114112->(PyData.str (S [c])).canLay0=true:=λc d=>Ww λx a=>by rw[zw.mp a];exact d
 show((PyData.str (S [x.1])).canLay0&&((PyData.str (S [x.2.1])).canLay0&&((PyData.str (S [x.2.2])).canLay0&&true)))=true;rw[q _ h1,q _ h2,q _ h3];rfl
theorem Ly{l:List L3}{cs:List Nat}(h:LkT l cs):okE (.lst (l.map dL))=true:=HN (n:=5) (by decide) λd hd=>by
 obtain⟨x,f,rfl⟩:=zy.mp hd;have a:=(h.lo x f).1.2;have b:=(ou (h.li x f)).2;have c:=(ou (h.lg x f)).2;exact Lx (by omega) (by omega) (by omega)
theorem ZM{l:List L3}{cs:List Nat}(h:LkT l cs):gNe (.lst (l.map dL)) (.lst (l.map dL))=some (.bl false):=by
 rw[Wu,Ly h,Bool.and_self,if_pos rfl,Wx (Ly h)];rfl
structure Val(l:List L3):Prop where
 ll:l.length<=200
 lo:∀x∈l,OkL x
 li:∀x∈l,col x.2.1=true
 lg:∀x∈l,col x.2.2=true
theorem mq{l:List L3}(v:Val l):∃k:Nat,Lst l k/\∀O,∃a,dh [.lst (l.map dL)] O=.ok (.int (k:Int)) a:=by
 have vl:=v.ll
 have m:∀c∈46::l.map (·.2.1),c∈[97,98,99,100,101,102,103,104,46]:=λc f=>by
  rcases zp.mp f with rfl | f
  ·decide
  ·obtain⟨x,j,rfl⟩:=zy.mp f;exact zU (v.li x j)
 have g:=(uG (46::l.map (·.2.1)) 46).mpr zg
 have h:LkT l (iU (46::l.map (·.2.1))):=by
  refine⟨by omega,v.lo,zG (X6 m) (by decide),Jl _,λc f=>zj (m c ((uG _ c).mp f)),λe=>?_,v.li,v.lg⟩;rw[e] at g;cases g
 have f:∀O,nQ [.lst (l.map dL),.int 1] O=.ok (.lst ((iU (46::l.map (·.2.1))).map st)) O:=λO=>Yi l 1 (·.2.1) (λ_=>.inl ⟨rfl,rfl⟩) (M:=[97,98,99,100,101,102,103,104,46]) (by omega) (by decide) (by decide) (λx j=>zU (v.li x j)) O
 obtain⟨T,C,u,B,r⟩:=ZL h (λx j=>(uG _ _).mpr (zq _ (zy.mpr ⟨x,j,rfl⟩))) g f;refine⟨mc T,B,λO=>?_⟩;obtain⟨a,e⟩:=r O;have tl:=C.len;have E:=YF T (by omega) a;have n:=YL T.length T (by omega) a;have F:=ZK T.length T (by omega) (by omega) a;have hs':shF (kvf T.length T) [46] [46] []=some (l.map dL):=u;rw[hs'] at n;refine⟨a,?_⟩;have q:aG uw (ak (aG ue (ak (bK lH (ak (aa 0) au)) au)) au) [some (.lst (l.map dL)),none] O=.ok (.lst (lrf T.length T)) a:=(Bg (Bf ((cg (ma1 (Jp (d:=.lst (l.map dL)) rfl rfl))).trans e))).trans E
 have t1:aB (aj gNe (aG uz (ak (aa 1) au)) (aa 0)) [some (.lst (l.map dL)),some (.lst (lrf T.length T))] a=.ok false a:=dB (bf ((cg (ma1 (x:=.lst (lrf T.length T)) rfl)).trans n) (y:=.lst (l.map dL)) rfl (ZM h));show bh (uC [some (.lst (l.map dL)),none] O)=_;unfold uC;rw[sq (iV q)];show bh (aC _ _ [some (.lst (l.map dL)),some (.lst (lrf T.length T))] a)=_;rw[sq (ifN t1),dW,cg (ma1 (x:=.lst (lrf T.length T)) rfl),F];rfl
def rc(one other:Nat)(w:Int)(x:L3):L3:=(x.1,(if w=0/\x.2.1=one/\x.1≠32 then other else x.2.1),(if w=1/\x.2.2=one then other else x.2.2))
def R_1:MS:=(bc (b7 (aB (aj gEq (aa 3) (mC (.int 0)))) (b7 (aB (aj gEq (aa 6) (aa 1))) (aB (aj gNe (aa 5) (mC (.str [32])))))) (aH 6 (mG (aa 2))) bz)
def R_2:MS:=(bc (b7 (aB (aj gEq (aa 3) (mC (.int 1)))) (aB (aj gEq (aa 7) (aa 1)))) (aH 7 (mG (aa 2))) bz)
def R_3:MS:=(cT 4 (bH (ak (aa 5) (ak (aa 6) (ak (aa 7) au)))))
def gRc:MG:=(gh 3 (cG (mgN 5) (cG (mgN 6) (cG (mgN 7) gJ))))
theorem uV{a b:L2.M Bool}{ρ:aA}{O:aq}(c:a ρ O=.ok false O):b7 a b ρ O=.ok false O:=by
 rw[eV,c,aR,if_neg zh]
theorem Cd(a b:Nat):gNe (st a) (st b)=some (.bl (!decide (a=b))):=by
 show some (D.bl (!decide ([a]=[b])))=_;rw[show decide ([a]=[b])=decide (a=b) from decide_eq_decide.mpr ⟨λh=>by injection h,λh=>by rw[h]⟩]
theorem ZP(one other:Nat)(w:Int)(x:L3)(a:Option D)(acc:List D)(l:acc.length<1000000)(O:aq):aC R_1 (aC R_2 R_3) [a,some (st one),some (st other),some (.int w),some (.lst acc),some (st x.1),some (st x.2.1),some (st x.2.2)] O=.nx [a,some (st one),some (st other),some (.int w),some (.lst (acc++[dL (rc one other w x)])),some (st x.1),some (st (rc one other w x).2.1),some (st (rc one other w x).2.2)] O:=by
 have c:aB (aj gEq (aa 3) (mC (.int 0))) [a,some (st one),some (st other),some (.int w),some (.lst acc),some (st x.1),some (st x.2.1),some (st x.2.2)] O=.ok (decide (w=0)) O:=kE rfl rfl;have t1:aB (aj gEq (aa 6) (aa 1)) [a,some (st one),some (st other),some (.int w),some (.lst acc),some (st x.1),some (st x.2.1),some (st x.2.2)] O=.ok (decide (x.2.1=one)) O:=dB (bf (x:=st x.2.1) (y:=st one) rfl rfl (nZ _ _));have t2:aB (aj gNe (aa 5) (mC (.str [32]))) [a,some (st one),some (st other),some (.int w),some (.lst acc),some (st x.1),some (st x.2.1),some (st x.2.2)] O=.ok (!decide (x.1=32)) O:=dB (bf (x:=st x.1) (y:=st 32) rfl rfl (Cd _ _))
 have j:R_1 [a,some (st one),some (st other),some (.int w),some (.lst acc),some (st x.1),some (st x.2.1),some (st x.2.2)] O=.nx [a,some (st one),some (st other),some (.int w),some (.lst acc),some (st x.1),some (st (rc one other w x).2.1),some (st x.2.2)] O:=by
  unfold R_1 rc;dsimp only
  by_cases h0:w=0
  ·rw[zj h0] at c
   by_cases h1:x.2.1=one
   ·rw[zj h1] at t1
    by_cases h2:x.1=32
    ·rw[zj h2] at t2;rw[if_neg (λz=>z.2.2 h2),ifN (qp c (qp t1 t2))]
    ·rw[ze h2] at t2;rw[if_pos ⟨h0,h1,h2⟩,ifY (uF c (uF t1 t2))];rfl
   ·rw[ze h1] at t1;rw[if_neg (λz=>h1 z.2.1),ifN (qp c (uV t1))]
  ·rw[ze h0] at c;rw[if_neg (λz=>h0 z.1),ifN (uV c)]
 generalize hi:(rc one other w x).2.1=i at j
 have f:aB (aj gEq (aa 3) (mC (.int 1))) [a,some (st one),some (st other),some (.int w),some (.lst acc),some (st x.1),some (st i),some (st x.2.2)] O=.ok (decide (w=1)) O:=kE rfl rfl;have g:aB (aj gEq (aa 7) (aa 1)) [a,some (st one),some (st other),some (.int w),some (.lst acc),some (st x.1),some (st i),some (st x.2.2)] O=.ok (decide (x.2.2=one)) O:=dB (bf (x:=st x.2.2) (y:=st one) rfl rfl (nZ _ _))
 have m:R_2 [a,some (st one),some (st other),some (.int w),some (.lst acc),some (st x.1),some (st i),some (st x.2.2)] O=.nx [a,some (st one),some (st other),some (.int w),some (.lst acc),some (st x.1),some (st i),some (st (rc one other w x).2.2)] O:=by
  unfold R_2 rc;dsimp only
  by_cases h0:w=1
  ·rw[zj h0] at f
   by_cases h1:x.2.2=one
   ·rw[zj h1] at g;rw[if_pos ⟨h0,h1⟩,ifY (uF f g)];rfl
   ·rw[ze h1] at g;rw[if_neg (λz=>h1 z.2),ifN (qp f g)]
  ·rw[ze h0] at f;rw[if_neg (λz=>h0 z.1),ifN (uV f)]
 rw[sq j,sq m];unfold R_3;rw[qj (ds:=acc) (d:=dL (rc one other w x)) (jK (xs:=[st x.1,st i,st (rc one other w x).2.2]) (maS rfl (maS rfl (ma1 rfl))) (show(3:Nat)<=1000000 by decide) |>.trans (by rw[<-hi];rfl)) rfl l];rfl
theorem Lz(one other:Nat)(w:Int)(f:Option D)(O:aq):∀(l:List L3) (acc:List D) (m j g:Option D),acc.length+l.length<1000000->∃d c a,b8 gRc (aC R_1 (aC R_2 R_3)) (l.map dL) [f,some (st one),some (st other),some (.int w),some (.lst acc),m,j,g] O=.nx [f,some (st one),some (st other),some (.int w),some (.lst (acc++(l.map (rc one other w)).map dL)),d,c,a] O
 | [],acc,m,j,g,_=>⟨m,j,g,by rw[zQ,zQ,zQ,zX];rfl⟩
 |x::l,acc,m,j,g,h=>by
  rw[zv] at h;obtain⟨d,c,a,e⟩:=Lz one other w f O l (acc++[dL (rc one other w x)]) (some (st x.1)) (some (st (rc one other w x).2.1)) (some (st (rc one other w x).2.2)) (by rw[zn,jd];omega);refine⟨d,c,a,?_⟩;rw[zd,Ji (ρ1:=[f,some (st one),some (st other),some (.int w),some (.lst acc),some (st x.1),some (st x.2.1),some (st x.2.2)]) rfl (ZP one other w x f acc (by omega) O),e,zE];rfl
theorem ZQ(l:List L3)(f:l.length<=1000)(one other:Nat)(w:Int)(O:aq):nW [.lst (l.map dL),st one,st other,.int w] O=.ok (.lst ((l.map (rc one other w)).map dL)) O:=by
 obtain⟨d,c,a,e⟩:=Lz one other w (some (.lst (l.map dL))) O l [] none none none (by rw[zT];omega);unfold R_1 R_2 R_3 gRc at e;show bh (uD [some (.lst (l.map dL)),some (st one),some (st other),some (.int w),none,none,none,none] O)=_;unfold uD;rw[sq (show aH 4 (bA au) [some (.lst (l.map dL)),some (st one),some (st other),some (.int w),none,none,none,none] O=.nx [some (.lst (l.map dL)),some (st one),some (st other),some (.int w),some (.lst []),none,none,none] O from rfl),gk,lU,iw (l:=l.map dL) rfl,lV,e,nu,zK];rfl
theorem LC{a b:List L3}{x:L3}{k d:Nat}(h:Lst (a++x::b) k)(h':Lst (a++b) d):d<=k:=by
 obtain⟨c,h1,h2⟩:=K8 x b a (46,46) k h.1
 have:=h'.2 c h2
 omega
theorem ZR{a b:List L3}{x:L3}{k d:Nat}(h:Lst (a++b) k)(h':Lst (a++x::b) d):d<=k+14:=by
 obtain⟨c,h1,h2⟩:=La (S:=Shw) (x:=x) (q0:=(x.2.1,x.2.2)) ⟨rfl,.inr rfl⟩ b a (46,46) k h.1
 have:=h'.2 c h2
 omega
theorem ZV{a b:List L3}{x:L3}{k c:Nat}(h:Lst (a++x::b) k)(h':Lst (a++(32,46,x.2.2)::b) c):c<=k:=h'.2 k (K9 (S:=Shw) (x:=x) (x':=(32,46,x.2.2)) (λq d=>⟨d.1,.inl rfl⟩) b a (46,46) k h.1)
theorem ZW{l:List L3}{k:Nat}(h:Lst (l.map λx:L3=>(x.1,46,46)) k):k=0:=Nat.le_zero.mp (h.2 0 (Lb l))
theorem ZX{k:Nat}(h:Lst [] k):k=0:=Nat.le_zero.mp (h.2 0 rfl)
theorem ZZ{l:List L3}{one other:Nat}{w:Int}{k j:Nat}(h1:one≠46)(h:Lst l k)(h':Lst (l.map (rc one other w)) j):j<=k:=by
 obtain⟨c,r,n⟩:=BW (S:=Shw) (S':=Shw) (f:=λc=>if w=0/\c=one then other else c) (g:=λc=>if w=1/\c=one then other else c) (if_neg λz=>h1 z.2.symm) (if_neg λz=>h1 z.2.symm) (rc one other w) l (46,46) k (λx _ q m=>by
  refine⟨?_,?_⟩
  ·show(if w=1/\q.2=one then other else q.2)=(if w=1/\x.2.2=one then other else x.2.2);rw[m.1]
  ·by_cases a:x.1=32
   ·exact .inl a
   ·refine .inr ?_
    rcases m.2 with e | e
    ·exact absurd e a
    ·show(if w=0/\q.1=one then other else q.1)=(if w=0/\x.2.1=one/\x.1≠32 then other else x.2.1);rw[e]
     by_cases z:w=0/\x.2.1=one
     ·rw[if_pos z,if_pos ⟨z.1,z.2,a⟩]
     ·rw[if_neg z,if_neg (λy=>z ⟨y.1,y.2.1⟩)]) h.1
 have d:fp (λc=>if w=0/\c=one then other else c) (λc=>if w=1/\c=one then other else c) (46,46)=(46,46):=by
  unfold fp;dsimp only;rw[if_neg (λz=>h1 z.2.symm),if_neg (λz=>h1 z.2.symm)]
 rw[d] at n
 have:=h'.2 c n
 omega
theorem Z0{l:List L3}(v:Val l):okE (.lst (l.map dL))=true:=HN (n:=5) (by decide) λd hd=>by
 obtain⟨x,f,rfl⟩:=zy.mp hd;have a:=(v.lo x f).1.2;have b:=(ou (v.li x f)).2;have c:=(ou (v.lg x f)).2;exact Lx (by omega) (by omega) (by omega)
theorem qH{a b:List L3}(f:Val a)(d:Val b)(h:(a++b).length<=200):Val (a++b):=by
 refine⟨h,λx c=>?_,λx c=>?_,λx c=>?_⟩<;>rcases zC.mp c with c | c
 ·exact f.lo x c
 ·exact d.lo x c
 ·exact f.li x c
 ·exact d.li x c
 ·exact f.lg x c
 ·exact d.lg x c
theorem uW{l c:List L3}(v:Val l)(h:∀x∈c,x∈l)(d:c.length<=200):Val c:=⟨d,λx a=>v.lo x (h x a),λx a=>v.li x (h x a),λx a=>v.lg x (h x a)⟩
theorem LK{x:L3}(h1:OkL x)(h2:col x.2.1=true)(h3:col x.2.2=true):Val [x]:=by
 refine⟨(show 1<=200 by decide),λy a=>?_,λy a=>?_,λy a=>?_⟩<;>rw[zw.mp a]
 ·exact h1
 ·exact h2
 ·exact h3
theorem Z1{l:List L3}(v:Val l){one other:Nat}{w:Int}(f:col other=true):Val (l.map (rc one other w)):=by
 refine⟨by rw[zf];exact v.ll,λy d=>?_,λy d=>?_,λy d=>?_⟩<;>obtain⟨x,c,rfl⟩:=zy.mp d
 ·refine⟨(v.lo x c).1,λa=>?_⟩;show(if w=0/\x.2.1=one/\x.1≠32 then other else x.2.1)=46;rw[if_neg (λz=>z.2.2 a)];exact(v.lo x c).2 a
 ·show col (if w=0/\x.2.1=one/\x.1≠32 then other else x.2.1)=true
  split
  ·exact f
  ·exact v.li x c
 ·show col (if w=1/\x.2.2=one then other else x.2.2)=true
  split
  ·exact f
  ·exact v.lg x c
theorem Z2{l:List L3}(v:Val l):Val (l.map λx:L3=>(x.1,46,46)):=by
 refine⟨by rw[zf];exact v.ll,λy a=>?_,λy a=>?_,λy a=>?_⟩<;>obtain⟨x,c,rfl⟩:=zy.mp a
 ·exact⟨(v.lo x c).1,λ_=>rfl⟩
 ·rfl
 ·rfl
theorem Z3{l:List D}(h:okE (.lst l)=true):gEq (.lst l) (.lst [])=some (.bl l.isEmpty):=by
 rw[Wt,h,show okE (.lst [])=true from rfl,Bool.and_self,if_pos rfl]
 cases l with
 |nil=>rfl
 |cons=>rfl
theorem LQ{m b:L2.M D}{ρ:aA}{O:aq}{l:List L3}{k:Nat}(a:m ρ O=.ok (.lst (l.map dL)) O)(c:b ρ O=.ok (.int (k:Int)) O):mSl m moN (moS b) ρ O=.ok (.lst ((l.take k).map dL)) O:=by
 rw[sI,a,aR,Ht,aR,pU,c,aR,xj,aR,j6,xn,Yj,j5,List.map_take]
theorem LR{m b:L2.M D}{ρ:aA}{O:aq}{l:List L3}{k:Nat}(a:m ρ O=.ok (.lst (l.map dL)) O)(c:b ρ O=.ok (.int (k:Int)) O):mSl m (moS b) moN ρ O=.ok (.lst ((l.drop k).map dL)) O:=by
 rw[sI,a,aR,pU,c,aR,xj,aR,Ht,aR,j6,xn,Yk,j5,List.map_drop]
theorem qI{a b:L2.M D}{ρ:aA}{O:aq}{l m:List L3}(d:a ρ O=.ok (.lst (l.map dL)) O)(c:b ρ O=.ok (.lst (m.map dL)) O)(h:l.length+m.length<=1000):aj aD a b ρ O=.ok (.lst ((l++m).map dL)) O:=by
 rw[add_l d c (by rw[zf,zf];omega),zI]
theorem ltI{a b:L2.M D}{ρ:aA}{O:aq}{i j:Int}(d:a ρ O=.ok (.int i) O)(c:b ρ O=.ok (.int j) O)(h:j<=i):aB (aj gLt a b) ρ O=.ok false O:=by
 rw[Be d c,ze (by omega)]
theorem gtI{a b:L2.M D}{ρ:aA}{O:aq}{i j:Int}(d:a ρ O=.ok (.int i) O)(c:b ρ O=.ok (.int j) O)(h:i<=j):aB (aj gGt a b) ρ O=.ok false O:=by
 rw[dB (b:=decide (j<i)) (bf d c (by rw[jD,jD,Wr])),ze (by omega)]
def eL(X L:D)(h:Int)(r q n m l j g f d c a:Option D):aA:=[some X,some L,some (.int h),r,q,n,m,l,j,g,f,d,c,a]
def IT:MS:=(bc (b7 (aB (aj gNe (aj gIx (aa 6) (mC (.int 0))) (mC (.str [32])))) (aB (aj gNe (aj gIx (aa 6) (aj aD (mC (.int 1)) (aa 7))) (mC (.str [46]))))) (aC (aH 9 (aG dh (ak (aG nW (ak (aa 1) (ak (aj gIx (aa 6) (aj aD (mC (.int 1)) (aa 7))) (ak (aa 8) (ak (aa 7) au))))) au)))
  (bc (cO (aB (aj gLt (aa 9) (mC (.int 0)))) (aB (aj gGt (aa 9) (aa 3)))) (aZ (mC (.bl false))) bz)) bz)
theorem Z4(xs:List Int)(U:xs.length<=63):∃O',Az [.lst (xs.map D.int)] []=.ok (.bl true) O':=by
 obtain⟨lk,MI,MG,K0,el⟩:=Yr xs [];have ll:=K0.ll;have vk:Val lk:=⟨K0.ll,K0.lo,λx U=>K0.io _ (K0.xi x U),λx U=>K0.go _ (K0.xg x U)⟩;obtain⟨l,hl⟩:∃l,l=lk.take 12:=⟨_,rfl⟩
 have l12:l.length<=12:=by rw[hl,List.length_take];omega
 have v:Val l:=uW vk (λx U=>by rw[hl] at U;exact List.mem_of_mem_take U) (by omega);have ec:=Jr xs 1
 generalize xs.getD 1 0=h at ec
 obtain⟨X,hX⟩:∃X,X=D.lst (xs.map D.int):=⟨_,rfl⟩;rw[<-hX] at el ec ⊢
 have s1:mSl (aG qi (ak (aa 0) au)) moN (moS (mC (.int 12))) [some X,none,none,none,none,none,none,none,none,none,none,none,none,none] []=.ok (.lst (l.map dL)) []:=by
  rw[hl];exact LQ (k:=12) ((cg (ma1 rfl)).trans el) rfl
 have s2:aG kj (ak (aa 0) (ak (mC (.int 1)) au)) [some X,some (.lst (l.map dL)),none,none,none,none,none,none,none,none,none,none,none,none] []=.ok (.int h) []:=(cg (maS rfl (ma1 rfl))).trans (ec []);have hok:=Z0 v;have t1:aB (aj gEq (aa 1) (bA au)) (eL X (.lst (l.map dL)) h none none none none none none none none none none none) []=.ok (l.map dL).isEmpty []:=dB (bf (x:=.lst (l.map dL)) (y:=.lst []) rfl rfl (Z3 hok))
 have pre:∀O':aq,bh (aC (bc (aB (aj gEq (aa 1) (bA au))) (aZ (aj gEq (aG dh (ak (bA au) au)) (mC (.int 0)))) bz) ((aC (aH 3 (aG dh (ak (aa 1) au)))
  (aC (aH 4 (aj bw (aG bZ (ak (aa 2) (ak (mC (.int 1)) au))) (bK cR (ak (aa 1) au))))
  (aC (aH 5 (aG dh (ak (aj aD (mSl (aa 1) moN (moS (aa 4))) (mSl (aa 1) (moS (aj aD (aa 4) (mC (.int 1)))) moN)) au)))
  (aC (bc (cO (aB (aj gLt (aa 3) (mC (.int 0)))) (cO (aB (aj gLt (aa 5) (mC (.int 0)))) (aB (aj gGt (aa 5) (aa 3))))) (aZ (mC (.bl false))) bz)
  (aC (aH 6 (aj gIx (aa 1) (aa 4)))
  (aC (aH 7 (aj bw (aG bZ (ak (aa 2) (ak (mC (.int 2)) au))) (mC (.int 2))))
  (aC (aH 8 (aj gIx (bA (ak (mC (.str [46])) (ak (mC (.str [97])) (ak (mC (.str [99])) (ak (mC (.str [104])) au))))) (aj bw (aG bZ (ak (aa 2) (ak (mC (.int 3)) au))) (mC (.int 4)))))
  (aC (bc (b7 (aB (aj gNe (aj gIx (aa 6) (mC (.int 0))) (mC (.str [32])))) (aB (aj gNe (aj gIx (aa 6) (aj aD (mC (.int 1)) (aa 7))) (mC (.str [46]))))) (aC (aH 9 (aG dh (ak (aG nW (ak (aa 1) (ak (aj gIx (aa 6) (aj aD (mC (.int 1)) (aa 7))) (ak (aa 8) (ak (aa 7) au))))) au)))
  (bc (cO (aB (aj gLt (aa 9) (mC (.int 0)))) (aB (aj gGt (aa 9) (aa 3)))) (aZ (mC (.bl false))) bz)) bz)
  (aC (aH 10 (aG dh (ak (aj aD (aj aD (mSl (aa 1) moN (moS (aa 4))) (bA (ak (bH (ak (mC (.str [32])) (ak (mC (.str [46])) (ak (aj gIx (aa 6) (mC (.int 2))) au)))) au))) (mSl (aa 1) (moS (aj aD (aa 4) (mC (.int 1)))) moN)) au)))
  (aC (bc (cO (aB (aj gLt (aa 10) (mC (.int 0)))) (aB (aj gGt (aa 10) (aa 3)))) (aZ (mC (.bl false))) bz)
  (aC (aH 11 (bH (ak (mC (.str [107])) (ak (aj gIx (mC (.str [97,98,99,100,101,102,103,104,46])) (aj bw (aG bZ (ak (aa 2) (ak (mC (.int 4)) au))) (mC (.int 9)))) (ak (aj gIx (mC (.str [97,98,99,100,101,102,103,104,46])) (aj bw (aG bZ (ak (aa 2) (ak (mC (.int 5)) au))) (mC (.int 9)))) au)))))
  (aC (aH 12 (aG dh (ak (aj aD (aj aD (mSl (aa 1) moN (moS (aa 4))) (bA (ak (aa 11) au))) (mSl (aa 1) (moS (aa 4)) moN)) au)))
  (aC (bc (cO (aB (aj gLt (aa 12) (aa 3))) (aB (aj gGt (aa 12) (aj aD (aa 3) (mC (.int 14)))))) (aZ (mC (.bl false))) bz)
  (aC (aH 13 (dJ (cJ (aa 1)) 3 [] (gh 3 (cG (mgN 0) (cG (mgN 1) (cG (mgN 2) gJ)))) fM (bH (ak (aa 0) (ak (mC (.str [46])) (ak (mC (.str [46])) au))))))
  (aZ (aj gEq (aG dh (ak (aa 13) au)) (mC (.int 0))))))))))))))))))) (eL X (.lst (l.map dL)) h none none none none none none none none none none none) [])=.ok (.bl true) O'->Az [X] []=.ok (.bl true) O':=λO' e=>by
  show bh (uE [some X,none,none,none,none,none,none,none,none,none,none,none,none,none] [])=_;unfold uE;rw[sq (bU s1)];show bh (aC _ _ [some X,some (.lst (l.map dL)),none,none,none,none,none,none,none,none,none,none,none,none] [])=_;rw[sq (bU s2)];exact e
 cases hL:l with
 |nil =>
  rw[hL] at t1 pre;have v0:Val []:=⟨by decide,λx U=>(nomatch U),λx U=>(nomatch U),λx U=>(nomatch U)⟩;obtain⟨k,hk,hO⟩:=mq v0;obtain⟨O',e⟩:=hO [];have k0:=ZX hk;refine⟨O',pre O' ?_⟩;rw[gk,ifY t1,dW,Bh (g:=gEq) (b:=mC (.int 0)) (z:=.bl true) ((cg (ma1 (x:=.lst []) rfl)).trans e) rfl (by rw[k0];rfl)];rfl
 |cons y0 r0 =>
  have hne:0<l.length:=by rw[hL];exact Nat.succ_pos _
  clear hL y0 r0
  have te:(l.map dL).isEmpty=false:=by
   cases l with
   |nil=>cases hne
   |cons=>rfl
  rw[te] at t1;have a0:=zN (mix h 1) (show(l.length:Int)≠0 by omega);have a1:=zO (mix h 1) (show(0:Int)<(l.length:Int) by omega);obtain⟨a,ha⟩:∃a:Nat,(a:Int)=mix h 1 % (l.length:Int):=⟨(mix h 1 % (l.length:Int)).toNat,by omega⟩
  have hlt:a<l.length:=by omega
  obtain⟨x,hx0⟩:∃x,l[a]?=some x:=⟨_,zu hlt⟩;have hxm:=zJ hx0;obtain⟨A,hA⟩:∃A,A=l.take a:=⟨_,rfl⟩;obtain⟨B,hB⟩:∃B,B=l.drop (a+1):=⟨_,rfl⟩
  have hdr:l.drop a=x::B:=by
   have e1:=List.drop_eq_getElem_cons hlt;have e2:=zu hlt;rw[e2] at hx0;rw[e1,zz hx0,hB]
  have W:l=A++x::B:=by rw[hA,<-hdr,List.take_append_drop]
  have hlen:A.length+(B.length+1)=l.length:=by
   have:=congrArg List.length W
   rw[zn,zv] at this;omega
  have vA:Val A:=uW v (λy hy=>by rw[hA] at hy;exact List.mem_of_mem_take hy) (by omega);have vB:Val B:=uW v (λy hy=>by rw[hB] at hy;exact List.mem_of_mem_drop hy) (by omega);have okx:=v.lo x hxm;have okxi:=v.li x hxm;have okxg:=v.lg x hxm;obtain⟨d,L3',c3⟩:=mq v;obtain⟨f,L5,c5⟩:=mq (qH vA vB (by rw[zn];omega));obtain⟨n,L10,c10⟩:=mq (qH vA (qH (LK (x:=(32,46,x.2.2)) ⟨⟨zc _,(show 32<=125 by decide)⟩,λ_=>rfl⟩ rfl okxg) vB (by rw[zn];show 1+_<=_;omega)) (by rw[zn,zn];show _+(1+_)<=_;omega));obtain⟨T,hq1,hq1m⟩:=kZ (L:=[97,98,99,100,101,102,103,104,46]) (r:=mix h 4 % 9) (by decide) (zN _ (by decide)) (zO _ (by decide))
  obtain⟨R,hq2,hq2m⟩:=kZ (L:=[97,98,99,100,101,102,103,104,46]) (r:=mix h 5 % 9) (by decide) (zN _ (by decide)) (zO _ (by decide));have vN:Val [((107,T,R):L3)]:=LK ⟨⟨(show 32<=107 by decide),(show 107<=125 by decide)⟩,λz=>absurd z (show ¬107=32 by decide)⟩ (zj hq1m) (zj hq2m);have vxB:Val (x::B):=uW v (λy hy=>by rw[W];exact zS _ hy) (by rw[zv];omega);obtain⟨I,L12,c12⟩:=mq (qH vA (qH vN vxB (by rw[zn];show 1+(B.length+1)<=200;omega)) (by rw[zn,zn];show A.length+(1+(B.length+1))<=200;omega));obtain⟨k13,L13,c13⟩:=mq (Z2 v);have hk5:f<=d:=LC (by rw[<-W];exact L3') L5
  have hk10:n<=d:=ZV (a:=A) (b:=B) (x:=x) (by rw[<-W];exact L3') L10;have hk12a:d<=I:=LC (a:=A) (x:=(107,T,R)) (b:=x::B) L12 (by rw[<-W];exact L3');have hk12b:I<=d+14:=ZR (a:=A) (x:=(107,T,R)) (b:=x::B) (by rw[<-W];exact L3') L12;have hk13:k13=0:=ZW L13;have w0:=zN (mix h 2) (show(2:Int)≠0 by decide);have w1:=zO (mix h 2) (show(0:Int)<2 by decide)
  generalize hw:mix h 2 % 2=w at w0 w1
  obtain⟨q,hot,hotc⟩:∃q,gIx (.lst [st 46,st 97,st 99,st 104]) (.int (mix h 3 % 4))=some (st q)/\col q=true:=by
   have b0:=zN (mix h 3) (show(4:Int)≠0 by decide);have b1:=zO (mix h 3) (show(0:Int)<4 by decide)
   rcases(show mix h 3 % 4=0\/mix h 3 % 4=1\/mix h 3 % 4=2\/mix h 3 % 4=3 by omega) with e | e | e | e<;>rw[e]
   ·exact⟨46,rfl,rfl⟩
   ·exact⟨97,rfl,rfl⟩
   ·exact⟨99,rfl,rfl⟩
   ·exact⟨104,rfl,rfl⟩
  obtain⟨on,hon⟩:∃on,on=if w=0 then x.2.1 else x.2.2:=⟨_,rfl⟩
  have hix:gIx (dL x) (.int (1+w))=some (st on):=by
   rcases(show w=0\/w=1 by omega) with e | e
   ·rw[hon,e,if_pos rfl];rfl
   ·rw[hon,e,if_neg (by decide)];rfl
  obtain⟨k9,L9,c9⟩:=mq (Z1 v (one:=on) (other:=q) (w:=w) hotc);obtain⟨L,hLd⟩:∃L,L=D.lst (l.map dL):=⟨_,rfl⟩
  have J:∀(a3 a4 a5 a6 Z Y u H G F E:Option D) (O:aq),aa 1 (eL X L h a3 a4 a5 a6 Z Y u H G F E) O=.ok (.lst (l.map dL)) O:=λa3 a4 a5 a6 Z Y u H G F E O=>by rw[hLd];rfl
  rw[<-hLd] at t1 pre;obtain⟨O3,e3⟩:=c3 [];have s3:aG dh (ak (aa 1) au) (eL X L h none none none none none none none none none none none) []=.ok (.int (d:Int)) O3:=(cg (ma1 (J _ _ _ _ _ _ _ _ _ _ _ _))).trans e3
  have s4:aj bw (aG bZ (ak (aa 2) (ak (mC (.int 1)) au))) (bK cR (ak (aa 1) au)) (eL X L h (some (.int d)) none none none none none none none none none none) O3=.ok (.int (a:Int)) O3:=by
   rw[ha]
   have:=qm (J (some (.int d)) none none none none none none none none none none O3)
   rw[zf] at this;exact dR (fY (c:=h) (k:=1) rfl rfl (by decide) (by decide)) this (by omega)
  obtain⟨C,e5⟩:=c5 O3
  have tk:∀(a3 a5 a6 Z Y u H G F E:Option D) (O:aq),mSl (aa 1) moN (moS (aa 4)) (eL X L h a3 (some (.int (a:Int))) a5 a6 Z Y u H G F E) O=.ok (.lst (A.map dL)) O:=λa3 a5 a6 Z Y u H G F E O=>by rw[hA];exact LQ (J _ _ _ _ _ _ _ _ _ _ _ O) rfl
  have dr:∀(a3 a5 a6 Z Y u H G F E:Option D) (O:aq),mSl (aa 1) (moS (aj aD (aa 4) (mC (.int 1)))) moN (eL X L h a3 (some (.int (a:Int))) a5 a6 Z Y u H G F E) O=.ok (.lst (B.map dL)) O:=λa3 a5 a6 Z Y u H G F E O=>by rw[hB];exact LR (k:=a+1) (J _ _ _ _ _ _ _ _ _ _ _ O) ((iT (i:=(a:Int)) (j:=1) rfl rfl).trans (by rw[show((a:Int)+1)=((a+1:Nat):Int) by omega]))
  have dr0:∀(a3 a5 a6 Z Y u H G F E:Option D) (O:aq),mSl (aa 1) (moS (aa 4)) moN (eL X L h a3 (some (.int (a:Int))) a5 a6 Z Y u H G F E) O=.ok (.lst ((x::B).map dL)) O:=λa3 a5 a6 Z Y u H G F E O=>by rw[<-hdr];exact LR (J _ _ _ _ _ _ _ _ _ _ _ O) rfl
  have s5:aG dh (ak (aj aD (mSl (aa 1) moN (moS (aa 4))) (mSl (aa 1) (moS (aj aD (aa 4) (mC (.int 1)))) moN)) au) (eL X L h (some (.int d)) (some (.int (a:Int))) none none none none none none none none none) O3=.ok (.int (f:Int)) C:=(cg (ma1 (qI (tk _ _ _ _ _ _ _ _ _ _ _) (dr _ _ _ _ _ _ _ _ _ _ _) (by omega)))).trans e5;have s6:=ifN (a:=aZ (mC (.bl false))) (nY (ltI (a:=aa 3) (b:=mC (.int 0)) (ρ:=eL X L h (some (.int d)) (some (.int (a:Int))) (some (.int f)) none none none none none none none none) (O:=C) (i:=(d:Int)) (j:=0) rfl rfl (by omega)) (nY (ltI (a:=aa 5) (b:=mC (.int 0)) (i:=(f:Int)) (j:=0) rfl rfl (by omega)) (gtI (a:=aa 5) (b:=aa 3) (i:=(f:Int)) (j:=(d:Int)) rfl rfl (by omega))))
  have s7:aj gIx (aa 1) (aa 4) (eL X L h (some (.int d)) (some (.int (a:Int))) (some (.int f)) none none none none none none none none) C=.ok (dL x) C:=bf (J _ _ _ _ _ _ _ _ _ _ _ _) rfl (by
   rw[j6];show gIx (.lst (l.map dL)) (.int (a:Int))=_;rw[pX,pY,zD,hx0]
   rfl)
  have s8:aj bw (aG bZ (ak (aa 2) (ak (mC (.int 2)) au))) (mC (.int 2)) (eL X L h (some (.int d)) (some (.int (a:Int))) (some (.int f)) (some (dL x)) none none none none none none none) C=.ok (.int w) C:=by
   rw[<-hw];exact dR (fY (c:=h) (k:=2) rfl rfl (by decide) (by decide)) rfl (by decide)
  have s9:aj gIx (bA (ak (mC (.str [46])) (ak (mC (.str [97])) (ak (mC (.str [99])) (ak (mC (.str [104])) au))))) (aj bw (aG bZ (ak (aa 2) (ak (mC (.int 3)) au))) (mC (.int 4))) (eL X L h (some (.int d)) (some (.int (a:Int))) (some (.int f)) (some (dL x)) (some (.int w)) none none none none none none) C=.ok (st q) C:=bf (x:=.lst [st 46,st 97,st 99,st 104]) rfl (dR (fY (c:=h) (k:=3) rfl rfl (by decide) (by decide)) rfl (by decide)) hot
  obtain⟨u,O9,s10⟩:∃(u:Option D) (O9:aq),IT (eL X L h (some (.int d)) (some (.int (a:Int))) (some (.int f)) (some (dL x)) (some (.int w)) (some (st q)) none none none none none) C=.nx (eL X L h (some (.int d)) (some (.int (a:Int))) (some (.int f)) (some (dL x)) (some (.int w)) (some (st q)) u none none none none) O9:=by
   unfold IT;have u1:aB (aj gNe (aj gIx (aa 6) (mC (.int 0))) (mC (.str [32]))) (eL X L h (some (.int d)) (some (.int (a:Int))) (some (.int f)) (some (dL x)) (some (.int w)) (some (st q)) none none none none none) C=.ok (!decide (x.1=32)) C:=dB (bf (x:=st x.1) (y:=st 32) rfl rfl (Cd _ _));have u0:aj gIx (aa 6) (aj aD (mC (.int 1)) (aa 7)) (eL X L h (some (.int d)) (some (.int (a:Int))) (some (.int f)) (some (dL x)) (some (.int w)) (some (st q)) none none none none none) C=.ok (st on) C:=bf (x:=dL x) (y:=.int (1+w)) rfl (iT rfl rfl) hix;have u2:aB (aj gNe (aj gIx (aa 6) (aj aD (mC (.int 1)) (aa 7))) (mC (.str [46]))) (eL X L h (some (.int d)) (some (.int (a:Int))) (some (.int f)) (some (dL x)) (some (.int w)) (some (st q)) none none none none none) C=.ok (!decide (on=46)) C:=dB (bf u0 (y:=st 46) rfl (Cd _ _))
   by_cases h1:x.1=32
   ·rw[zj h1] at u1;exact⟨none,C,ifN (uV u1)⟩
   ·rw[ze h1] at u1
    by_cases h2:on=46
    ·rw[zj h2] at u2;exact⟨none,C,ifN (qp u1 u2)⟩
    ·rw[ze h2] at u2;have hk9:k9<=d:=ZZ h2 L3' L9;obtain⟨O9,e9⟩:=c9 C;refine⟨some (.int k9),O9,?_⟩;have z1:aG dh (ak (aG nW (ak (aa 1) (ak (aj gIx (aa 6) (aj aD (mC (.int 1)) (aa 7))) (ak (aa 8) (ak (aa 7) au))))) au) (eL X L h (some (.int d)) (some (.int (a:Int))) (some (.int f)) (some (dL x)) (some (.int w)) (some (st q)) none none none none none) C=.ok (.int (k9:Int)) O9:=(cg (ma1 ((cg (maS (J _ _ _ _ _ _ _ _ _ _ _ _) (maS u0 (maS rfl (ma1 rfl))))).trans (ZQ l (by omega) on q w C)))).trans e9;have z2:=ifN (a:=aZ (mC (.bl false))) (nY (ltI (a:=aa 9) (b:=mC (.int 0)) (ρ:=eL X L h (some (.int d)) (some (.int (a:Int))) (some (.int f)) (some (dL x)) (some (.int w)) (some (st q)) (some (.int k9)) none none none none) (O:=O9) (i:=(k9:Int)) (j:=0) rfl rfl (by omega)) (gtI (a:=aa 9) (b:=aa 3) (i:=(k9:Int)) (j:=(d:Int)) rfl rfl (by omega)))
     rw[ifY (uF u1 u2),sq (iV z1)];exact z2
  obtain⟨Q,e10⟩:=c10 O9
  have s11:aG dh (ak (aj aD (aj aD (mSl (aa 1) moN (moS (aa 4))) (bA (ak (bH (ak (mC (.str [32])) (ak (mC (.str [46])) (ak (aj gIx (aa 6) (mC (.int 2))) au)))) au))) (mSl (aa 1) (moS (aj aD (aa 4) (mC (.int 1)))) moN)) au) (eL X L h (some (.int d)) (some (.int (a:Int))) (some (.int f)) (some (dL x)) (some (.int w)) (some (st q)) u none none none none) O9=.ok (.int (n:Int)) Q:=by
   refine(cg (ma1 (qI (l:=A++[((32,46,x.2.2):L3)]) (m:=B) (qI (l:=A) (m:=[((32,46,x.2.2):L3)]) (tk _ _ _ _ _ _ _ _ _ _ _) (Bd (xs:=[dL (32,46,x.2.2)]) (ma1 (jK (xs:=[st 32,st 46,st x.2.2]) (maS rfl (maS rfl (ma1 (bf (x:=dL x) (z:=st x.2.2) rfl rfl rfl)))) (show(3:Nat)<=1000000 by decide))) (show(1:Nat)<=1000000 by decide)) (by show A.length+1<=1000;omega)) (dr _ _ _ _ _ _ _ _ _ _ _) (by rw[zn];show A.length+1+B.length<=1000;omega)))).trans ?_;rw[zE];exact e10
  have s12:=ifN (a:=aZ (mC (.bl false))) (nY (ltI (a:=aa 10) (b:=mC (.int 0)) (ρ:=eL X L h (some (.int d)) (some (.int (a:Int))) (some (.int f)) (some (dL x)) (some (.int w)) (some (st q)) u (some (.int n)) none none none) (O:=Q) (i:=(n:Int)) (j:=0) rfl rfl (by omega)) (gtI (a:=aa 10) (b:=aa 3) (i:=(n:Int)) (j:=(d:Int)) rfl rfl (by omega)));have s13:bH (ak (mC (.str [107])) (ak (aj gIx (mC (.str [97,98,99,100,101,102,103,104,46])) (aj bw (aG bZ (ak (aa 2) (ak (mC (.int 4)) au))) (mC (.int 9)))) (ak (aj gIx (mC (.str [97,98,99,100,101,102,103,104,46])) (aj bw (aG bZ (ak (aa 2) (ak (mC (.int 5)) au))) (mC (.int 9)))) au))) (eL X L h (some (.int d)) (some (.int (a:Int))) (some (.int f)) (some (dL x)) (some (.int w)) (some (st q)) u (some (.int n)) none none none) Q=.ok (dL (107,T,R)) Q :=
   jK (xs:=[st 107,st T,st R]) (maS rfl (maS (bf (x:=.str [97,98,99,100,101,102,103,104,46]) rfl (dR (fY (c:=h) (k:=4) rfl rfl (by decide) (by decide)) rfl (by decide)) hq1) (ma1 (bf (x:=.str [97,98,99,100,101,102,103,104,46]) rfl (dR (fY (c:=h) (k:=5) rfl rfl (by decide) (by decide)) rfl (by decide)) hq2)))) (show(3:Nat)<=1000000 by decide)
  obtain⟨P,e12⟩:=c12 Q
  have s14:aG dh (ak (aj aD (aj aD (mSl (aa 1) moN (moS (aa 4))) (bA (ak (aa 11) au))) (mSl (aa 1) (moS (aa 4)) moN)) au) (eL X L h (some (.int d)) (some (.int (a:Int))) (some (.int f)) (some (dL x)) (some (.int w)) (some (st q)) u (some (.int n)) (some (dL (107,T,R))) none none) Q=.ok (.int (I:Int)) P:=by
   refine(cg (ma1 (qI (l:=A++[((107,T,R):L3)]) (m:=x::B) (qI (l:=A) (m:=[((107,T,R):L3)]) (tk _ _ _ _ _ _ _ _ _ _ _) (Bd (xs:=[dL (107,T,R)]) (ma1 rfl) (show(1:Nat)<=1000000 by decide)) (by show A.length+1<=1000;omega)) (dr0 _ _ _ _ _ _ _ _ _ _ _) (by rw[zn];show A.length+1+(B.length+1)<=1000;omega)))).trans ?_;rw[zE];exact e12
  have s15:=ifN (a:=aZ (mC (.bl false))) (nY (ltI (a:=aa 12) (b:=aa 3) (ρ:=eL X L h (some (.int d)) (some (.int (a:Int))) (some (.int f)) (some (dL x)) (some (.int w)) (some (st q)) u (some (.int n)) (some (dL (107,T,R))) (some (.int I)) none) (O:=P) (i:=(I:Int)) (j:=(d:Int)) rfl rfl (by omega)) (gtI (a:=aa 12) (b:=aj aD (aa 3) (mC (.int 14))) (i:=(I:Int)) (j:=(d:Int)+14) rfl (iT rfl rfl) (by omega)))
  have cl:=nA (g:=gh 3 (cG (mgN 0) (cG (mgN 1) (cG (mgN 2) gJ)))) (t:=fM) (m:=bH (ak (aa 0) (ak (mC (.str [46])) (ak (mC (.str [46])) au)))) (λρ=>∃a b c,ρ=[a,b,c]) dL (λx:L3=>dL (x.1,46,46)) l [none,none,none] P [] ⟨_,_,_,rfl⟩ (by
   rintro y _ ρ ⟨a,b,c,rfl⟩
   exact⟨[some (st y.1),some (st y.2.1),some (st y.2.2)],rfl,⟨_,_,_,rfl⟩,rfl,rfl⟩)
  rw[zK] at cl;have s16:=kI (own:=3) (cap:=[]) (iw (J (some (.int d)) (some (.int (a:Int))) (some (.int f)) (some (dL x)) (some (.int w)) (some (st q)) u (some (.int n)) (some (dL (107,T,R))) (some (.int I)) none P)) (by rw[zf];omega) rfl cl
  have em:(l.map λx:L3=>dL (x.1,46,46))=(l.map λx:L3=>((x.1,46,46):L3)).map dL:=by rw[zL];rfl
  rw[em] at s16;obtain⟨O13,e13⟩:=c13 P;have s17:aj gEq (aG dh (ak (aa 13) au)) (mC (.int 0)) (eL X L h (some (.int d)) (some (.int (a:Int))) (some (.int f)) (some (dL x)) (some (.int w)) (some (st q)) u (some (.int n)) (some (dL (107,T,R))) (some (.int I)) (some (.lst ((l.map λx:L3=>((x.1,46,46):L3)).map dL)))) P=.ok (.bl true) O13:=Bh ((cg (ma1 rfl)).trans e13) rfl (by rw[hk13];rfl);refine⟨O13,pre O13 ?_⟩;rw[sq (ifN t1),sq (iV s3)];show bh (aC _ _ (eL X L h (some (.int d)) none none none none none none none none none none) O3)=_;rw[sq (bU s4)];show bh (aC _ _ (eL X L h (some (.int d)) (some (.int (a:Int))) none none none none none none none none none) O3)=_
  rw[sq (iV s5)];show bh (aC _ _ (eL X L h (some (.int d)) (some (.int (a:Int))) (some (.int f)) none none none none none none none none) C)=_;rw[sq s6,sq (bU s7)];show bh (aC _ _ (eL X L h (some (.int d)) (some (.int (a:Int))) (some (.int f)) (some (dL x)) none none none none none none none) C)=_;rw[sq (bU s8)];show bh (aC _ _ (eL X L h (some (.int d)) (some (.int (a:Int))) (some (.int f)) (some (dL x)) (some (.int w)) none none none none none none) C)=_;rw[sq (bU s9)];show bh (aC _ _ (eL X L h (some (.int d)) (some (.int (a:Int))) (some (.int f)) (some (dL x)) (some (.int w)) (some (st q)) none none none none none) C)=_
  unfold IT at s10;rw[sq s10,sq (iV s11)];show bh (aC _ _ (eL X L h (some (.int d)) (some (.int (a:Int))) (some (.int f)) (some (dL x)) (some (.int w)) (some (st q)) u (some (.int n)) none none none) Q)=_;rw[sq s12,sq (bU s13)];show bh (aC _ _ (eL X L h (some (.int d)) (some (.int (a:Int))) (some (.int f)) (some (dL x)) (some (.int w)) (some (st q)) u (some (.int n)) (some (dL (107,T,R))) none none) Q)=_;rw[sq (iV s14)];show bh (aC _ _ (eL X L h (some (.int d)) (some (.int (a:Int))) (some (.int f)) (some (dL x)) (some (.int w)) (some (st q)) u (some (.int n)) (some (dL (107,T,R))) (some (.int I)) none) P)=_
  rw[sq s15,sq (bU s16)];show bh (aZ _ (eL X L h (some (.int d)) (some (.int (a:Int))) (some (.int f)) (some (dL x)) (some (.int w)) (some (st q)) u (some (.int n)) (some (dL (107,T,R))) (some (.int I)) (some (.lst ((l.map λx:L3=>((x.1,46,46):L3)).map dL)))) P)=_;rw[dW,s17];rfl
theorem all_mk{l:PySem.W.OpenLaw}{w:World}{K:PySem.W.Frag}{h:Heap}{mg:Str->Option Value}{fa:Addr}(X:K.In h)(G:h.Ns mainGlobals mg)(hfa:mg "law" = some (.ref fa))
  {jM:Addr}
  {Ce:Addr}{Z5 Ma:Option Addr}{Z6:Array (Option Value)}{Z7 Mf Mg Mh Cg Mi:Value}
  {ad_PLAIN:Addr}{Mj:Value}{Z8:Option Addr}{it_PLAIN:Array Value}{nn_PLAIN:Nat}{Z9:Array (Option Value)}
  (Z_Leaps:ClsAt K "Leaps" jM)
  (QlB:PySem.W.findIn K (.ref jM) "inks" = some none)
  (QlC:PySem.W.findIn K (.ref jM) "look" = some none)
  (xD:Def K mg "written" xC)
  (xJ:Def K mg "cost_over" xG)
  (xN:Def K mg "least_cost" pZ)
  (M_Leaps_last_at:MethAt K jM "last_at" "Leaps.last_at" xO)
  (M_Leaps_nodes_at:MethAt K jM "nodes_at" "Leaps.nodes_at" tE)
  (xU:Def K mg "marks_to" xT)
  (xX:Def K mg "marks_between" xV)
  (M_Leaps_moves_from:MethAt K jM "moves_from" "Leaps.moves_from" xY)
  (M_Leaps_is_end:MethAt K jM "is_end" "Leaps.is_end" yg)
  (yo:Def K mg "price_nodes" ym)
  (yr:Def K mg "priced" yp)
  (yu:Def K mg "first_cheapest" tV)
  (M_Leaps_first_node:MethAt K jM "first_node" "Leaps.first_node" yw)
  (yC:Def K mg "way_of" yz)
  (yG:Def K mg "colours_of" tZ)
  (M_Leaps___init__:MethAt K jM "__init__" "Leaps.__init__" yH)
  (yM:Def K mg "shaded_way" yK)
  (yQ:Def K mg "shaded" yP)
  (yV:Def K mg "_law_cell_at" yS)
  (yZ:Def K mg "_law_mix" yW)
  (z7:Def K mg "_law_colours" ug)
  (z9:Def K mg "_law_signs" z8)
  (Ab:Def K mg "_law_look" Aa)
  (Af:Def K mg "_law_is_colour" Ad)
  (Ah:Def K mg "_law_read" Ag)
  (Aj:Def K mg "_law_shown" Ai)
  (Al:Def K mg "_law_marks_cost" uA)
  (An:Def K mg "_law_cost" Am)
  (Ay:Def K mg "_law_recoloured" Aw)
  (Ci:PySem.W.nsIn K mainGlobals "law" = some (some (.ref Ce))) (Ml:K.lookup Ce=some ⟨Z7,Z5,.func (PySem.W.fnOf "law" "law" (fc ig) (di ig) (aX ig) .none Mf Mg Mh Ma Cg Mi),Z6⟩) (QuI:PySem.W.codeIn K Cg "law" = true) (Qxa:PySem.W.keepIn K (.ref Ce)=true)
  (B:cH mg)
  (NK:bY K=true)
  (xE:∃u,mg "ANEW_SIGN" = some u/\RelV (.str (S [9])) u)
  (Qp5:PySem.W.nsIn K mainGlobals "PLAIN" = some (some (.ref ad_PLAIN))) (Qpn:K.lookup ad_PLAIN=some ⟨Mj,Z8,.seq it_PLAIN nn_PLAIN,Z9⟩) (t_c_PLAIN:Mj=.type "tuple") (QoF:it_PLAIN.size<=sizeLine) (v_c_PLAIN:aN (List.map (λl=>V.str (S l)) [[46],[46]]) it_PLAIN.toList)
  (xF:∃u,mg "ROW_END" = some u/\RelV (.str (S [10])) u):
  ∃fd:FuncData,(∀(s:Shared) (v:Value),BindsTo s fd ⟨[v],[]⟩ [("_law_script",v)])/\∀base:Heap,K.In base->base.Ns mainGlobals mg->cj l.prog w K mg base CX0 11 fa fd ["_law_script"] (sp_law K):=by
 have e:=hfa.symm.trans (PySem.W.mg_of X G Ci);cases e;have nD:=Z_Leaps.kf X G QlB;have fW:=Z_Leaps.kf X G QlC;have xP:=Z_Leaps.dm X G M_Leaps_last_at;have xR:=Z_Leaps.dm X G M_Leaps_nodes_at;have yc:=Z_Leaps.dm X G M_Leaps_moves_from;have yj:=Z_Leaps.dm X G M_Leaps_is_end;have yx:=Z_Leaps.dm X G M_Leaps_first_node;have yI:=Z_Leaps.dc X G M_Leaps___init__;have Ba:Def K mg "law" ig:=⟨_,_,PySem.W.mg_of X G Ci,vH (st:=ig) Ml QuI Qxa⟩;have fX:mZ K mg "PLAIN" [[46],[46]]:=⟨ad_PLAIN,_,it_PLAIN,nn_PLAIN,PySem.W.mg_of X G Qp5,Qpn,t_c_PLAIN,rfl,QoF,v_c_PLAIN⟩;refine⟨PySem.W.fnOf "law" "law" (fc ig) (di ig) (aX ig) .none Mf Mg Mh Ma Cg Mi,λs v=>.of_eq rfl,λbase _ _=>?_⟩
 have jH:=@W3 l.prog w K mg base xD B NK xE xF;have nC:=@W4 l.prog w K mg base xJ B NK;have nP:=@W5 l.prog w K mg base xN B NK nC;have gq:=@W7 l.prog w K mg base xP B NK fW;have nJ:=@W8 l.prog w K mg base xR B NK fX fW nD gq;have nG:=@W9 l.prog w K mg base xU B NK jH;have ye:=@Xa l.prog w K mg base xX B NK fX nG jH;have nM:=@Xb l.prog w K mg base yc B NK fW gq jH nJ ye;have nO:=@Xe l.prog w K mg base yj B NK gq;have yt:=@Xf l.prog w K mg base yo B NK nJ nM nO nP;have yD:=@Xg l.prog w K mg base yr B NK gq yt;have yF:=@Xh l.prog w K mg base yu B NK nP nC
 have yE:=@Xj l.prog w K mg base yx B NK fX;have yN:=@Xk l.prog w K mg base yC B NK yD yE nO yF nM;have yJ:=@Xm l.prog w K mg base yG B NK fX;have yO:=@Xo l.prog w K mg base yI B NK fW nD yJ;have yR:=@Xp l.prog w K mg base yM B NK yN yO;have Aq:=@Xr l.prog w K mg base yQ B NK yR;have nU:=@Xv l.prog w K mg base yV B NK;have d8:=@Xw l.prog w K mg base yZ B NK;have uq:=@Xx l.prog w K mg base z7 B NK;have Ac:=@Xy l.prog w K mg base z9 B NK;have Bb:=@Xz l.prog w K mg base Ab B NK nU uq d8 Ac;have ux:=@XD l.prog w K mg base Af B NK;have Ao:=@XH l.prog w K mg base Ah B NK ux
 have Ar:=@XJ l.prog w K mg base Aj B NK;have Av:=@XN l.prog w K mg base Al B NK;have jJ:=@XQ l.prog w K mg base An B NK Ao Aq Ar Av;have Bc:=@XR l.prog w K mg base Ay B NK;have QwH:=@XX l.prog w K mg base Ba B NK Bb nU jJ d8 Bc;obtain⟨f',fd',hm',hk',hb',F',oc',od',osl',lk'⟩:=QwH;have e2:=(PySem.W.mg_of X G Ci).symm.trans hm';cases e2;have e3:=Ml.symm.trans lk';cases e3;exact F'.imp (Ud Z4)
theorem walk{l:PySem.W.OpenLaw}{q:Program}{loose:List Str}{XP:(Str->Option Value)->Heap->Prop}{YP:World->Heap->Prop}{d:DefRec}{K:Params->PySem.W.Frag}(hn:l.most=some 63)(hdf:d.params.defaults=[])
  (hY:∀(w:World) (h:Heap),YP w h->(K w.params).In h)
  (F:∀(w:World) (mg:Str->Option Value) (fa:Addr) (h:Heap),(K w.params).In h->h.Ns mainGlobals mg->mg d.name=some (.ref fa) ->
   ∃fd:FuncData,(∀(s:Shared) (u:Value),BindsTo s fd ⟨[u],[]⟩ [("_law_script",u)])/\∀base:Heap,(K w.params).In base->base.Ns mainGlobals mg->cj l.prog w (K w.params) mg base CX0 11 fa fd ["_law_script"] (sp_law (K w.params))):
  PySem.W.WalkO q loose XP YP l.row.toRowW d [] (λf vs=>PySem.call f vs):=
 L2.walk_ofR (n:=63) (k:=11) (x:="_law_script") (CX:=λ_=>CX0) (sp:=λw=>sp_law (K w.params)) hn (by decide) hdf ⟨rfl,by decide,by decide⟩ hY F (λ_ _ a ns hl ho hS=>⟨a,ns,rfl,hS,hl,ho,λ_=>rfl⟩) λ_ _ _ _ _ z=>z
end K38
open PySem PySem.W PyProof.Rows L2
set_option maxRecDepth 100000 in
set_option maxHeartbeats 0 in
theorem PySem.Challenge.cw_outweave_k38_whole_less_never_more_holds : PySem.Challenge.rw_outweave_k38_whole_less_never_more.Holds := by
 w_on;o_law;k_head;(case hw=>w_witness2)
 k_fill
 refine K38.walk (l:=PySem.Challenge.rw_outweave_k38_whole_less_never_more) rfl rfl (λw h Y=>PySem.W.kIn_of Y) ?F
 case F =>
  intro w mg fa h KX G hmg
  refine' K38.all_mk KX G hmg ⟨?x1,?x2,?x3,?x4,?x5,?x6,?x7⟩ ?x8 ?x9 (mkD KX G ?x10 ?x11 ?x12 ?x13) (mkD KX G ?x14 ?x15 ?x16 ?x17) (mkD KX G ?x18 ?x19 ?x20 ?x21) (mkM ?x22 ?x23 ?x24 ?x25 ?x26) (mkM ?x27 ?x28 ?x29 ?x30 ?x31) (mkD KX G ?x32 ?x33 ?x34 ?x35) (mkD KX G ?x36 ?x37 ?x38 ?x39) (mkM ?x40 ?x41 ?x42 ?x43 ?x44) (mkM ?x45 ?x46 ?x47 ?x48 ?x49) (mkD KX G ?x50 ?x51 ?x52 ?x53) (mkD KX G ?x54 ?x55 ?x56 ?x57) (mkD KX G ?x58 ?x59 ?x60 ?x61) (mkM ?x62 ?x63 ?x64 ?x65 ?x66) (mkD KX G ?x67 ?x68 ?x69 ?x70) (mkD KX G ?x71 ?x72 ?x73 ?x74) (mkM ?x75 ?x76 ?x77 ?x78 ?x79) (mkD KX G ?x80 ?x81 ?x82 ?x83) (mkD KX G ?x84 ?x85 ?x86 ?x87) (mkD KX G ?x88 ?x89 ?x90 ?x91) (mkD KX G ?x92 ?x93 ?x94 ?x95) (mkD KX G ?x96 ?x97 ?x98 ?x99) (mkD KX G ?x100 ?x101 ?x102 ?x103) (mkD KX G ?x104 ?x105 ?x106 ?x107) (mkD KX G ?x108 ?x109 ?x110 ?x111) (mkD KX G ?x112 ?x113 ?x114 ?x115) (mkD KX G ?x116 ?x117 ?x118 ?x119) (mkD KX G ?x120 ?x121 ?x122 ?x123) (mkD KX G ?x124 ?x125 ?x126 ?x127) (mkD KX G ?x128 ?x129 ?x130 ?x131) ?x132 ?x133 ?x134 ?x135 ⟨⟨⟨PySem.W.mg_none_of KX G ?x136,PySem.W.mg_none_of KX G ?x137,PySem.W.mg_none_of KX G ?x138,PySem.W.mg_none_of KX G ?x139,PySem.W.mg_none_of KX G ?x140,PySem.W.mg_none_of KX G ?x141,PySem.W.mg_none_of KX G ?x142,PySem.W.mg_none_of KX G ?x143,PySem.W.mg_none_of KX G ?x144,PySem.W.mg_none_of KX G ?x145,PySem.W.mg_none_of KX G ?x146,PySem.W.mg_none_of KX G ?x147,PySem.W.mg_none_of KX G ?x148,PySem.W.mg_none_of KX G ?x149,PySem.W.mg_none_of KX G ?x150⟩,PySem.W.mg_none_of KX G ?x151⟩,PySem.W.mg_none_of KX G ?x152⟩ ?x153 ⟨_,PySem.W.mg_of KX G ?x154,?x155⟩ ?x156 ?x157 ?x158 ?x159 ?x160 ⟨_,PySem.W.mg_of KX G ?x161,?x162⟩
  (case x1 | x2 | x3 | x4 | x5 | x6 | x7 | x8 | x9 | x10 | x11 | x12 | x13 | x14 | x15 | x16 | x17 | x18 | x19 | x20 | x21 | x22 | x23 | x24 | x25 | x26 | x27 | x28 | x29 | x30 | x31 | x32 | x33 | x34 | x35 | x36 | x37 | x38 | x39 | x40 | x41 | x42 | x43 | x44 | x45 | x46 | x47 | x48 | x49 | x50 | x51 | x52 | x53 | x54 | x55 | x56 | x57 | x58 | x59 | x60 | x61 | x62 | x63 | x64 | x65 | x66 | x67 | x68 | x69 | x70 | x71 | x72 | x73 | x74 | x75 | x76 | x77 | x78 | x79 | x80 | x81 | x82 | x83 | x84 | x85 | x86 | x87 | x88 | x89 | x90 | x91 | x92 | x93 | x94 | x95 | x96 | x97 | x98 | x99 | x100 | x101 | x102 | x103 | x104 | x105 | x106 | x107 | x108 | x109 | x110 | x111 | x112 | x113 | x114 | x115 | x116 | x117 | x118 | x119 | x120 | x121 | x122 | x123 | x124 | x125 | x126 | x127 | x128 | x129 | x130 | x131 | x132 | x133 | x134 | x135 | x136 | x137 | x138 | x139 | x140 | x141 | x142 | x143 | x144 | x145 | x146 | x147 | x148 | x149 | x150 | x151 | x152 | x154 | x156 | x157 | x161=>k_is)
  (case x153=>first | kernel_rfl | decide +kernel)
  (case x155 | x162=>exact⟨_,rfl⟩)
  (case x158=>rfl)
  (case x159=>decide +kernel)
  (case x160=>repeat (first | exact .nil | refine .cons ⟨_,rfl⟩ ?_))
