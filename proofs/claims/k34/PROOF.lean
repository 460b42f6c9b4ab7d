import PyProof.Rows.All
import Wide.All
import OpenK.AllK
import Wide.FinOn
import Lean
import PyProof.EqAt
import PyProof.EqKinds
import PyProof.TupleCall
import PySem.Challenge.RW_outweave_k34_shaded_and_back
set_option Elab.async false
set_option linter.all false
set_option maxRecDepth 100000
set_option maxHeartbeats 4000000
section
open PySem PyProof.Rows
abbrev za:=@wpAny_bind
abbrev zb:=@wpAny_pure
abbrev zc:=@Nat.le_refl
abbrev zd:=@decide_eq_false
abbrev ze:=@List.length_map
abbrev zf:=@Bool.false_ne_true
abbrev zg:=@List.mem_cons_self
abbrev zh:=@List.map_cons
abbrev zj:=@Heap.lt_size
abbrev zk:=@List.mem_cons
abbrev zl:=@decide_eq_true
abbrev zm:=@Heap.get?_push_of_some
abbrev zn:=@List.mem_cons_of_mem
abbrev zo:=@List.length_cons
abbrev zp:=@Nat.ne_of_lt
abbrev zq:=@List.getElem?_eq_some_iff
abbrev zr:=@Bool.and_eq_true
abbrev zt:=@List.mem_singleton
abbrev zu:=@List.length_append
abbrev zv:=@List.getElem?_set_ne
abbrev zw:=@Heap.get?_push_size
abbrev zx:=@List.getElem?_eq_getElem
abbrev zy:=@List.size_toArray
abbrev zz:=@List.mem_map
abbrev zA:=@List.getElem?_map
abbrev zB:=@List.append_assoc
abbrev zC:=@List.getElem?_append_left
abbrev zD:=@Option.some.inj
abbrev zE:=@List.mem_append
abbrev zF:=@Nat.lt_of_lt_of_le
abbrev zG:=@Nat.le_trans
abbrev zH:=@List.mem_of_getElem?
abbrev zI:=@List.nil_append
abbrev zJ:=@List.length_nil
abbrev zK:=@List.getElem?_append_right
abbrev zL:=@List.map_nil
abbrev zM:=@List.getElem?_set_self
abbrev zN:=@wpAny_mono
abbrev zO:=@List.map_map
abbrev zP:=@wpAny_holding
abbrev zQ:=@Nat.lt_irrefl
abbrev zR:=@List.mem_append_right
abbrev zS:=@Int.emod_nonneg
abbrev zT:=@Int.emod_lt_of_pos
abbrev zU:=@List.append_nil
abbrev zV:=@of_decide_eq_true
abbrev zW:=@List.map_append
abbrev zX:=@wpAny_rule
abbrev zY:=@Nat.lt_succ_self
abbrev zZ:=@Nat.zero_add
abbrev jc:=@codeAny_builtin
abbrev jd:=@List.length_singleton
abbrev je:=@Nat.lt_succ_of_lt
abbrev jf:=@List.length_set
abbrev jg:=@List.getElem?_eq_none
abbrev jh:=@List.getElem?_cons_succ
abbrev ji:=@List.getElem?_cons_zero
abbrev jj:=@List.nodup_append
abbrev jk:=@Nat.le_add_right
abbrev jl:=@Heap.get?_update_other
abbrev jm:=@List.map_congr_left
abbrev jo:=@wpAny_updateSeq
abbrev jp:=@List.getElem_mem
abbrev jq:=@Option.map_eq_some_iff
abbrev jr:=@List.getD_eq_getElem?_getD
end
namespace PySem.W.Fast
abbrev tw8952707649034435986:=()
abbrev tw11505866987558034372:=()
abbrev tw3177862796291274622:=()
abbrev tw16095506389075084998:=()
abbrev tw16214825715351613033:=()
abbrev tw6798818047793768956:=()
abbrev tw15415453677561059681:=()
abbrev tw9393381995401588515:=()
abbrev tw6899352248618145134:=()
abbrev tw3316959071979221646:=()
abbrev tw4270024832247102195:=()
abbrev tw9275459946803369686:=()
abbrev tw11216775705308964898:=()
abbrev tw15046662623770513027:=()
abbrev tw5758447409598230484:=()
abbrev tw16210659715893378040:=()
abbrev tw12507499355270435491:=()
abbrev tw10748103304755796262:=()
abbrev tw9407251523321391206:=()
abbrev tw7689446821686271333:=()
abbrev tw15815119360308534527:=()
abbrev tw1770345980561286992:=()
abbrev tw3294702281401518297:=()
abbrev tw12970090204012147300:=()
abbrev tw3897262059506644602:=()
abbrev tw6010222311280721400:=()
abbrev tw10592976719367024239:=()
abbrev tw4558752239465042525:=()
abbrev tw7927292436034889667:=()
abbrev tw16522838347980539684:=()
abbrev tw16284097833175262428:=()
abbrev tw442541903531967674:=()
abbrev tw14725812919805511756:=()
abbrev tw13492210419869272960:=()
abbrev tw4084518872724660754:=()
abbrev tw16093298249867953498:=()
abbrev tw13231899603616998724:=()
abbrev tw2346187106968924291:=()
abbrev tw15445040095478504125:=()
abbrev tw1529528705529988185:=()
abbrev tw8371765502068109040:=()
abbrev tw1858417995872787290:=()
abbrev tw4459531392726340351:=()
abbrev tw585067961209687617:=()
abbrev tw6652219137317746856:=()
abbrev tw11145078955520867276:=()
abbrev tw10771203621028345899:=()
abbrev tw1254825582396109671:=()
abbrev tw12888333431933795257:=()
abbrev tw5677638197596966639:=()
abbrev tw7554207457983283398:=()
abbrev tw8928273326764798644:=()
abbrev tw13438067167104820216:=()
abbrev tw15169969347375860217:=()
abbrev tw9978628309449144548:=()
abbrev tw11511759515578187659:=()
abbrev tw15769643144365185568:=()
abbrev tw8017101938879334256:=()
abbrev tw11006549906356462413:=()
abbrev tw3701928066526918078:=()
abbrev tw18171428390852538326:=()
abbrev tw4979759074531347902:=()
abbrev tw18048185440370054447:=()
abbrev tw17725390778153875834:=()
abbrev tw13675662951046513916:=()
abbrev tw5872777720586278480:=()
abbrev tw2487825284644749926:=()
abbrev tw6642417576584592860:=()
abbrev tw8220017243802546425:=()
abbrev tw1076655943682406085:=()
abbrev tw3642618011407897045:=()
abbrev tw1059200389358608072:=()
abbrev tw1789264170657751326:=()
abbrev tw13642899322870853459:=()
abbrev tw1852176221013389214:=()
abbrev tw122873411073131137:=()
abbrev tw6993050276381942703:=()
abbrev tw8253081537071631512:=()
abbrev tw13208499932309786596:=()
abbrev tw7271745829835952588:=()
abbrev tw1579752798411248680:=()
abbrev tw13151417748175400318:=()
abbrev tw8700731614992114739:=()
abbrev tw9383657011938828448:=()
abbrev tw13428257809215951577:=()
abbrev tw531685595271768084:=()
abbrev tw13212081452367334235:=()
abbrev tw11904152212273528325:=()
abbrev tw466920952662246677:=()
abbrev tw12795936891583707600:=()
abbrev tw13737222415085322528:=()
abbrev tw18314228300122133028:=()
abbrev tw1512001196686637460:=()
abbrev tw11128653234283714292:=()
abbrev tw937455839326987522:=()
abbrev tw5807968077008894215:=()
abbrev tw7478833474042554116:=()
abbrev tw5672777599807276238:=()
abbrev tw5665654039734821873:=()
abbrev tw17268620241678880539:=()
abbrev tw7735428888030247361:=()
abbrev tw454487311020223033:=()
abbrev tw15121294830534884651:=()
abbrev tw1040976983348544678:=()
abbrev tw14340738151798698355:=()
abbrev tw2588454010718438715:=()
abbrev tw17066474567309736387:=()
abbrev tw522589483003151533:=()
abbrev tw12770910357096153168:=()
abbrev tw1162610216937569713:=()
abbrev tw11305651930542749805:=()
abbrev tw12158595620724448608:=()
abbrev tw3429477699561912273:=()
abbrev tw4020429685542463654:=()
abbrev tw7902087266599602843:=()
abbrev tw4250721745754556488:=()
abbrev tw7309134086047799968:=()
abbrev tw880640373832909969:=()
abbrev tw7642569712413887157:=()
abbrev tw11593587342478081167:=()
abbrev tw1046802027639503507:=()
abbrev tw10321956686092381520:=()
abbrev tw17426652309187013599:=()
abbrev tw4785387543985363559:=()
abbrev tw5862301061509271768:=()
abbrev tw2796749576601417827:=()
abbrev tw7585682489135361225:=()
abbrev tw17883228637174351365:=()
abbrev tw12740840389772278793:=()
abbrev tw18363896515082906735:=()
abbrev tw5497124470571217503:=()
abbrev tw12904496144964405961:=()
abbrev tw3244214373344937564:=()
abbrev tw12437198465176197902:=()
end PySem.W.Fast
namespace PySem.W.Fast
end PySem.W.Fast
namespace L2
open PySem PySem.Spec PyProof.Rows
abbrev Key:=Sum Int Str
def oG:Key->Value->Bool
 | .inl k,v=>Value.isInt k v
 | .inr x,v=>Value.isStrOf x v
def Qm(w:World):Key->Int
 | .inl k=>hashInt k
 | .inr x=>hashStr w x
theorem j5:∀{k:Key}{v:Value},oG k v=true->(∃i t,k=Sum.inl i/\v=Value.int i t)\/(∃x t,k=Sum.inr x/\v=Value.str x t)
 | .inl i,v,h=>by
  obtain⟨t,e⟩:=Value.isInt_shape (k:=i) (v:=v) h;exact .inl ⟨i,t,rfl,e⟩
 | .inr x,v,h=>by
  obtain⟨t,e⟩:=Value.isStrOf_shape (x:=x) (v:=v) h;exact .inr ⟨x,t,rfl,e⟩
theorem Qn(i:Int)(t:Tok):oG (.inl i) (.int i t)=true:=by simp[oG,Value.isInt]
theorem Qo(x:Str)(t:Tok):oG (.inr x) (.str x t)=true:=by simp[oG,Value.isStrOf]
theorem Qp(a b:Int):decide ((Sum.inl a:Key)=Sum.inl b)=(a == b):=by
 by_cases e:a=b
 ·subst e;simp
 ·have h:¬(Sum.inl a:Key)=Sum.inl b:=λq=>e (Sum.inl.inj q)
  rw[zd h];exact(beq_eq_false_iff_ne.mpr e).symm
theorem Qq(a b:Str):decide ((Sum.inr a:Key)=Sum.inr b)=decide (a=b):=by
 by_cases e:a=b
 ·subst e;simp
 ·have h:¬(Sum.inr a:Key)=Sum.inr b:=λq=>e (Sum.inr.inj q)
  rw[zd h,zd e]
theorem Qs(a:Int)(b:Str):decide ((Sum.inl a:Key)=Sum.inr b)=false:=zd (λq=>nomatch q)
theorem Qt(a:Str)(b:Int):decide ((Sum.inr a:Key)=Sum.inl b)=false:=zd (λq=>nomatch q)
def d7(prog:Program)(w:World):PySem.KeyKind prog w Key where
 is:=oG
 hash:=Qm w
 inj:=λv a b ha hb=>by
  rcases j5 ha with⟨i,t,rfl,rfl⟩ | ⟨x,t,rfl,rfl⟩
  ·rcases j5 hb with⟨j,u,rfl,e⟩ | ⟨y,u,rfl,e⟩
   ·injection e with e1 _;rw[e1]
   ·exact nomatch e
  ·rcases j5 hb with⟨j,u,rfl,e⟩ | ⟨y,u,rfl,e⟩
   ·exact nomatch e
   ·injection e with e1 _;rw[e1]
 byValue:=λk v h=>by
  rcases j5 h with⟨i,t,rfl,rfl⟩ | ⟨x,t,rfl,rfl⟩<;>rfl
 pyHash:=λhv h=>by
  rcases j5 hv with⟨i,t,rfl,rfl⟩ | ⟨x,t,rfl,rfl⟩
  ·exact wpAny_pyHash_int h
  ·exact wpAny_pyHash_str h
 eqBool:=λhu hv h=>by
  rcases j5 hu with⟨i,t,rfl,rfl⟩ | ⟨x,t,rfl,rfl⟩
  ·rcases j5 hv with⟨j,u,rfl,rfl⟩ | ⟨y,u,rfl,rfl⟩
   ·rw[Qp] at h;exact wpAny_eqBool_int h
   ·rw[Qs] at h;exact SeqAt.EqAt.int_str i t y u _ _ _ _ h
  ·rcases j5 hv with⟨j,u,rfl,rfl⟩ | ⟨y,u,rfl,rfl⟩
   ·rw[Qt] at h;exact SeqAt.EqAt.str_int x t j u _ _ _ _ h
   ·rw[Qq] at h;exact wpAny_eqBool_str h
 «strs»:=λk x t v h=>by
  rcases j5 h with⟨i,u,rfl,e⟩ | ⟨y,u,rfl,e⟩
  ·exact nomatch e
  ·injection e with e1 _
   subst e1
   cases v<;>rfl
theorem Qu(prog:Program)(w:World)(i:Int)(t:Tok):(d7 prog w).is (.inl i) (.int i t)=true:=Qn i t
theorem Qv(prog:Program)(w:World)(x:Str)(t:Tok):(d7 prog w).is (.inr x) (.str x t)=true:=Qo x t
inductive V where
 | non | bl (b:Bool) | int (i:Int) | str (x:Str) | byt (b:Array UInt8) | flt (b:UInt64) | ref (a:Addr) | ty (n:String)
 deriving DecidableEq
def RelV:V->Value->Prop
 | .non,u=>u=Value.none
 | .bl b,u=>u=Value.bool b
 | .int i,u=>∃t,u=Value.int i t
 | .str x,u=>∃t,u=Value.str x t
 | .byt b,u=>∃t,u=Value.bytes b t
 | .flt b,u=>∃t,u=Value.float b t
 | .ref a,u=>u=Value.ref a
 | .ty n,u=>u=Value.type n
abbrev aW:List V->List Value->Prop:=Paired RelV
theorem aW.length{xs:List V}{us:List Value}(r:aW xs us):xs.length=us.length:=Paired.length r
theorem aW.get:∀{xs:List V}{us:List Value}{i:Nat}{x:V},aW xs us->xs[i]?=some x->∃u,us[i]?=some u/\RelV x u
 | _,_,_,_,.nil,e=>by simp at e
 | _,_,0,_,.cons r _,e=>by simp at e;subst e;exact⟨_,rfl,r⟩
 | _,_,i+1,x,.cons _ t,e=>by
  obtain⟨u,h1,h2⟩:=aW.get (i:=i) (x:=x) t (by simpa using e);exact⟨u,by simpa using h1,h2⟩
theorem aW.append:∀{xs ys:List V}{us a:List Value},aW xs us->aW ys a->aW (xs++ys) (us++a)
 | _,_,_,_,.nil,s=>s
 | _,_,_,_,.cons r t,s=>.cons r (aW.append t s)
theorem aW.take:∀{xs:List V}{us:List Value} (n:Nat),aW xs us->aW (xs.take n) (us.take n)
 | _,_,0,_=>.nil
 | _,_,_+1,.nil=>.nil
 | _,_,n+1,.cons r t=>.cons r (aW.take n t)
theorem aW.drop:∀{xs:List V}{us:List Value} (n:Nat),aW xs us->aW (xs.drop n) (us.drop n)
 | _,_,0,r=>r
 | _,_,_+1,.nil=>.nil
 | _,_,n+1,.cons _ t=>aW.drop n t
def eH:Option V->Option Value->Prop
 |some v,some u=>RelV v u
 |none,none=>True
 | _,_=>False
def KV{κ:Type}:List (κ×V)->List (κ×Value)->Prop:=Paired λ(p:κ×V) (q:κ×Value)=>p.1=q.1/\RelV p.2 q.2
def kV:Key->V
 | .inl i=>.int i
 | .inr x=>.str x
section
variable {prog:Program}{w:World}{K:Type}[DecidableEq K](knd:KeyKind prog w K)(ik:Int->K)
def fL(h:Heap)(k:Int×List K)(a:Addr):Prop:=∃o items n u c,h.get? a=some o/\o.cls=.type "tuple"/\o.data=.seq items n/\items.toList=[u,.ref c]/\knd.is (ik k.1) u=true/\IsTupleKey knd h k.2 c
variable {knd ik}
theorem fL.typeIs{s:Shared}{k:Int×List K}{a:Addr}(x:fL knd ik s.heap k a):s.TypeIs (.ref a) "tuple":=let ⟨o,_,_,_,_,ho,hc,_⟩:=x;⟨o,ho,hc⟩
theorem fL.inj(q:∀i j,ik i=ik j->i=j){h:Heap}{a:Addr}{x y:Int×List K}(E:fL knd ik h x a)(C:fL knd ik h y a):x=y:=by
 obtain⟨o,items,n,u,c,G,_,hd,I,F,H⟩:=E;obtain⟨B,g,O,L,P,l,_,f,d,k,m⟩:=C;obtain rfl:o=B:=zD (G.symm.trans l);rw[hd] at f
 injection f with h1 _
 subst h1;rw[I] at d
 injection d with J b
 injection b with b _
 injection b with b
 subst J b;have t:=q _ _ (knd.inj _ _ _ F k);have r:=H.inj m;exact Prod.ext t r
theorem fL.keeps{h h':Heap}{k:Int×List K}{a d:Addr}{o:Obj}{es ep}(x:fL knd ik h k a)(j:h.get? d=some o)(hd:o.data=.dict es ep)(hs:Heap.SameBut d h h'):fL knd ik h' k a:=by
 obtain⟨i,items,n,u,c,f,r,b,q,l,m⟩:=x
 have g:a≠d:=by
  rintro rfl;obtain rfl:i=o:=zD (f.symm.trans j);rw[hd] at b;exact nomatch b
 exact⟨i,items,n,u,c,(hs.2 a g).trans f,r,b,q,l,m.keeps j hd hs⟩
variable {A:Around}{E:Value->Shared->Prop}{s:Shared}
def wR(knd:KeyKind prog w K)(ik:Int->K)(k:Int×List K):Int:=reduceHash (Builtin.Tuple.tupleHashOf [knd.hash (ik k.1),tupleKeyHash knd k.2])
theorem Qw{k:Int×List K}{a:Addr}{Q:Int->Shared->Prop}(f:A.units+1<cLine)(q:fL knd ik s.heap k a)(h:Q (wR knd ik k) {s with toks:=s.toks+(k.2.length+3)}):
  wpAny (model prog w) A (pyHash (.ref a)) Q E s:=by
 have g:=q.typeIs;have r:A.units<cLine:=Nat.lt_of_le_of_lt (jk _ 1) f;obtain⟨o,items,n,u,c,t,_,hd,y,l,m⟩:=q;unfold pyHash
 first | unfold pyHashByItsType | skip
 first | refine za (wpAny_cRoomFor_or (.inr r) ?_) | skip
 refine za (wpAny_specialOf g F.slot_tuple_hash.lookup ?_);show wpAny _ _ (if(some (Value.builtin "tuple.__hash__") == some Value.none)=true then _ else _) Q E s;rw[if_neg (by rw[beq_builtin_none];exact zf)];refine za (wpAny_specialOf g F.slot_tuple_hash.lookup ?_);show wpAny _ _ (callSpecialIfBoundUnlessNone? (.ref a) "__hash__" _ >>= _) Q E s;refine za (wpAny_callSpecialIfBoundUnlessNone?_slot g F.slot_tuple_hash (wpAny_call_entry F.slot_tuple_hash g F.entry_tuple_hash ?_ (F.args_tuple_hash_1 _)));show wpAny _ _ (Builtin.Tuple.tupleItemsOf (.ref a) >>= _) _ _ s;refine za (wpAny_tupleItemsOf t hd ?_)
 refine za ?_;rw[<-Array.forIn_toList,y];refine wpAny_forIn_list _
  (λrest (b:Array Int) s'=>(rest=[u,.ref c]/\b.toList=[]/\s'=s)\/(rest=[.ref c]/\b.toList=[knd.hash (ik k.1)]/\s' = {s with toks:=s.toks+1})\/(rest=[]/\b.toList=[knd.hash (ik k.1),tupleKeyHash knd k.2]/\s' = {s with toks:=s.toks+(k.2.length+2)}))
  _ ?_ ?_ _ _ (.inl ⟨rfl,rfl,rfl⟩)
 ·rintro x rest b s' (⟨d,hb,rfl⟩ | ⟨d,hb,rfl⟩ | ⟨d,hb,rfl⟩)
  ·injection d with j i
   subst j i;refine za (knd.pyHash l ?_)
   first
    | exact zb (.inr (.inl ⟨rfl,by simp[hb],rfl⟩))
    | exact za (zb (zb (.inr (.inl ⟨rfl,by simp[hb],rfl⟩))))
  ·injection d with j i
   subst j i;refine za (wpAny_pyHash_tuple (tupleKind_room_in1 (knd:=knd) f) (s:={s with toks:=s.toks+1}) m ?_)
   first
    | exact zb (.inr (.inr ⟨rfl,by simp[hb],by simp[Nat.add_assoc,Nat.add_comm];omega⟩))
    | exact za (zb (zb (.inr (.inr ⟨rfl,by simp[hb],by simp[Nat.add_assoc,Nat.add_comm];omega⟩))))
  ·cases d
 ·rintro b s' (⟨d,hb,rfl⟩ | ⟨d,hb,rfl⟩ | ⟨d,hb,rfl⟩)
  ·cases d
  ·cases d
  ·show wpAny _ _ (retInt (Builtin.Tuple.tupleHashOf b.toList)) _ _ _;rw[hb];refine wpAny_ret_mkInt ?_;show wpAny _ _ (if(decide (-(2:Int) ^ 63<=Builtin.Tuple.tupleHashOf [knd.hash (ik k.1),tupleKeyHash knd k.2])&&decide (Builtin.Tuple.tupleHashOf [knd.hash (ik k.1),tupleKeyHash knd k.2]<2 ^ 63))=true then _ else _) Q E _;unfold wR reduceHash at h
   by_cases d:(decide (-(2:Int) ^ 63<=Builtin.Tuple.tupleHashOf [knd.hash (ik k.1),tupleKeyHash knd k.2])&&decide (Builtin.Tuple.tupleHashOf [knd.hash (ik k.1),tupleKeyHash knd k.2]<2 ^ 63))=true
   ·rw[if_pos d];rw[if_pos d] at h;exact zb (by simpa [Nat.add_assoc] using h)
   ·rw[if_neg d];rw[if_neg d] at h;exact za (zX (zb (by simpa [Nat.add_assoc] using h)))
theorem Qx(L:∀i j,ik i=ik j->i=j)(hu:A.units+2<cLine){x y:Int×List K}{a b:Addr}{P:Fin->Shared->Prop}(hx:fL knd ik s.heap x a)(Y:fL knd ik s.heap y b)(h:P (.done (.ret (.bool (decide (x=y))))) s):
  wpAny (model prog w) A (Builtin.«tuple.__eq__» ⟨[.ref a,.ref b],[]⟩) P E s:=by
 have X:=Y.typeIs;obtain⟨oa,n,na,ua,ca,J,_,Q,k,W,U⟩:=hx;obtain⟨ob,m,nb,ub,Z,I,_,O,g,T,R⟩:=Y
 have H:(n.size == m.size)=true:=by
  have h1:n.toList.length=2:=by rw[k];rfl
  have h2:m.toList.length=2:=by rw[g];rfl
  rw[Array.length_toList] at h1 h2;rw[h1,h2];rfl
 show wpAny _ _ (isInstance (.ref b) (.type "tuple") >>= _) _ _ s;refine za (wpAny_isInstance X isSubtype_tuple_tuple ?_);simp only[Bool.not_true,Bool.false_eq_true,if_false];refine za (wpAny_tupleItemsOf J Q ?_);refine za (wpAny_tupleItemsOf I O ?_);refine za ?_;rw[k,g];refine wpAny_forIn_list _
  (λrest r q=>r.1=none/\q=s/\(rest=[(ua,ub),(.ref ca,.ref Z)]\/(rest=[(.ref ca,.ref Z)]/\x.1=y.1)\/(rest=[]/\x.1=y.1/\x.2=y.2)))
  _ ?_ ?_ _ _ ⟨rfl,rfl,.inl rfl⟩
 ·rintro⟨u,v⟩ rest r q ⟨F,rfl,(c | ⟨c,t⟩ | ⟨c,_⟩)⟩
  ·injection c with f C
   injection f with f B
   subst f C B;refine za (knd.eqBool (a:=ik x.1) (b:=ik y.1) W T ?_)
   by_cases d:x.1=y.1
   ·rw[zl (by rw[d])];simp only[Bool.not_true,Bool.false_eq_true,if_false];exact zb ⟨by simp,by simp,.inr (.inl ⟨by simp,d⟩)⟩
   ·rw[zd (λz=>d (L _ _ z))];simp only[Bool.not_false,if_true]
    have G:decide (x=y)=false:=zd λz=>d (by rw[z])
    rw[G] at h;exact za (zb (zb (zb h)))
  ·injection c with f C
   injection f with f B
   subst f C B;refine za (wpAny_eqBool_tuple (by omega) U R ?_)
   by_cases d:x.2=y.2
   ·rw[zl d];simp only[Bool.not_true,Bool.false_eq_true,if_false];exact zb ⟨by simp,by simp,.inr (.inr ⟨by simp,t,d⟩)⟩
   ·rw[zd d];simp only[Bool.not_false,if_true]
    have G:decide (x=y)=false:=zd λz=>d (by rw[z])
    rw[G] at h;exact za (zb (zb (zb h)))
  ·cases c
 ·rintro⟨r1,r2⟩ q ⟨F,rfl,(c | ⟨c,t⟩ | ⟨c,t,e2⟩)⟩
  ·cases c
  ·cases c
  ·simp only at F;subst F;refine zb ?_
   have l:(n.size == m.size)=decide (x=y):=by rw[H,zl (Prod.ext t e2)]
   show P (.done (.ret (.bool (n.size == m.size)))) q;rw[l];exact h
theorem Qy(d:∀i j,ik i=ik j->i=j){x y:Int×List K}{a b:Addr}{Q:Bool->Shared->Prop}(n:A.units+4<cLine)(f:fL knd ik s.heap x a)(g:fL knd ik s.heap y b)(h:Q (decide (x=y)) s):
  wpAny (model prog w) A (eqBool (.ref a) (.ref b)) Q E s:=by
 have m:A.units<cLine:=by omega
 have l:A.in1.units+2<cLine:=by
  show A.units+1+2<cLine;omega
 have k:A.units+2<cLine:=by omega
 unfold eqBool
 try with_reducible refine zP ?_
 show wpAny _ _ (if(Value.ref a == Value.ref b)=true then _ else _) Q E s
 by_cases c:(Value.ref a == Value.ref b)=true
 ·rw[if_pos c]
  have e:a=b:=by have:=eq_of_beq c;injection this
  subst e;obtain rfl:=f.inj d g;exact za (zX (zb (by simpa using h)))
 ·rw[if_neg c]
  exact za (wpAny_richCompare_same_room (op:=.Eq) f.typeIs g.typeIs F.slot_tuple_eq
   (wpAny_call_entry F.slot_tuple_eq f.typeIs F.entry_tuple_eq (Qx d (by first | exact l | exact k) f g ⟨_,rfl,(λe=>nomatch e),wpAny_truthy_bool h⟩) (F.args_tuple_eq_2 _ _)) m)
theorem Qz{m:Nat}{ks:List K}{a:Addr}{Q:Bool->Shared->Prop}(f:IsTupleKey knd s.heap ks a)(h:Q true s):wpAny (model prog w) A (eqIsQuiet (m+1) (.ref a)) Q E s:=by
 have g:=f.typeIs;obtain⟨o,items,n,i,_,hd,j⟩:=f;unfold eqIsQuiet;refine za (wpAny_specialOf g F.slot_tuple_eq.lookup ?_);show wpAny _ _ (isInstance (.ref a) (.type "tuple") >>= _) _ _ s;refine za (wpAny_isInstance g isSubtype_tuple_tuple ?_);simp only[Bool.not_true,Bool.false_eq_true,if_false];refine za (wpAny_seqItems i hd ?_);refine za ?_;show wpAny _ _ (forIn items _ _) _ _ s;rw[<-Array.forIn_toList];refine wpAny_forIn_list _ (λrest r b=>r.1=none/\b=s/\∀v∈rest,carriedByValue v=true) _ ?_ ?_ _ _ ⟨rfl,rfl,j.byValue⟩
 ·rintro v rest r b ⟨c,rfl,hall⟩;rw[eqIsQuiet_byValue _ (hall v zg)];refine za (zb ?_);simp only[Bool.not_true,Bool.false_eq_true,if_false];exact zb ⟨rfl,rfl,λu d=>hall u (zn _ d)⟩
 ·rintro⟨l,k⟩ b ⟨c,rfl,_⟩;simp only at c;subst c;exact zb h
theorem QB{k:Int×List K}{a:Addr}{Q:Bool->Shared->Prop}(j:fL knd ik s.heap k a)(h:Q true s):wpAny (model prog w) A (eqIsQuiet 8 (.ref a)) Q E s:=by
 have l:=j.typeIs;obtain⟨o,items,n,u,c,q,_,hd,t,g,i⟩:=j;unfold eqIsQuiet;refine za (wpAny_specialOf l F.slot_tuple_eq.lookup ?_);show wpAny _ _ (isInstance (.ref a) (.type "tuple") >>= _) _ _ s;refine za (wpAny_isInstance l isSubtype_tuple_tuple ?_);simp only[Bool.not_true,Bool.false_eq_true,if_false];refine za (wpAny_seqItems q hd ?_);refine za ?_;show wpAny _ _ (forIn items _ _) _ _ s;rw[<-Array.forIn_toList,t];refine wpAny_forIn_list _ (λrest r d=>r.1=none/\d=s/\∀v∈rest,v=u\/v=.ref c) _ ?_ ?_ _ _ ⟨rfl,rfl,λv m=>by simpa using m⟩
 ·rintro v rest r d ⟨f,rfl,hall⟩
  rcases hall v zg with e | e
  ·rw[e,eqIsQuiet_byValue _ (knd.byValue _ _ g)];refine za (zb ?_);simp only[Bool.not_true,Bool.false_eq_true,if_false];exact zb ⟨rfl,rfl,λu b=>hall u (zn _ b)⟩
  ·rw[e];refine za (Qz i ?_);simp only[Bool.not_true,Bool.false_eq_true,if_false];exact zb ⟨rfl,rfl,λu b=>hall u (zn _ b)⟩
 ·rintro⟨y,x⟩ d ⟨f,rfl,_⟩;simp only at f;subst f;exact zb h
end
abbrev NK:=Int×List Key
def oH(prog:Program)(w:World):HeapKind prog w NK where
 is:=fL (d7 prog w) Sum.inl
 hash:=wR (d7 prog w) Sum.inl
 draws:=λk=>k.2.length+3
 room:=λA=>A.units+4<cLine
 inj:=λhx hy=>hx.inj (λ_ _ e=>Sum.inl.inj e) hy
 keeps:=λx ho hd hs=>x.keeps ho hd hs
 pyHash:=λhu hk h=>Qw (by omega) hk h
 eqBool:=λhu hx hy h=>Qy (λ_ _ e=>Sum.inl.inj e) hu hx hy h
 quiet:=λhk h=>QB hk h
inductive HO where
  | lst (xs:List V)
  | tup (xs:List V)
  | dK (kvs:List (Key×V)) | dT (kvs:List (List Key×V))
  | dN (K:List (Addr×Obj)) (kvs:List (NK×V))
  | set (S:Int->Bool) (n:Nat)
  | ins (C dx:Addr) (fs:List (Str×V))
  | own (x:Addr)
  | xd (fs:List (Str×V))
  | met (f x:Addr)
  | rng (lo hi:Int)
  | frz (o:Obj) (u:HO)
  | tbl (ps:Array Value)
  | ext (φ:Heap->Prop)
abbrev Hp:=Addr->Option HO
def upd(H:Hp)(a:Addr)(o:HO):Hp:=λb=>if b=a then some o else H b
theorem cg{H:Hp}{a:Addr}{o:HO}:upd H a o a=some o:=by unfold upd;rw[if_pos rfl]
theorem aQ{H:Hp}{a b:Addr}{o:HO}(h:b≠a):upd H a o b=H b:=by unfold upd;rw[if_neg h]
theorem ne_of{H:Hp}{a b:Addr}{o u:HO}(h:H a=some o)(h':H b=some u)(d:o≠u):a≠b:=by
 intro e;subst e;rw[h] at h';exact d (zD h')
theorem cI{H:Hp}{a b:Addr}{o:HO}(h:H a=some o)(h':H b=none):a≠b:=by
 intro e;subst e;rw[h] at h';cases h'
def NAt(K:List (Addr×Obj))(H:Hp)(k:NK)(b:Addr):Prop:=∃c,H b=some (.tup [.int k.1,.ref c]) /\
 (H c=some (.tup (k.2.map kV))\/∃(o:Obj) (a:Array Value) (n:Nat),K.lookup c=some o/\o.cls=.type "tuple"/\o.data=.seq a n/\a.size<=sizeLine/\aW (k.2.map kV) a.toList)
theorem NAt.mono{K:List (Addr×Obj)}{H d:Hp}{k:NK}{b:Addr}(x:NAt K H k b)(a:∀b xs,H b=some (.tup xs)->d b=some (.tup xs)):NAt K d k b:=by
 obtain⟨c,h1,h2⟩:=x;exact⟨c,a _ _ h1,h2.imp (a _ _) id⟩
section
variable (P:Program)(w:World)
def cC(H:Hp)(h:Heap)(a:Addr):HO->Prop
 | .lst b=>b.length<=sizeLine/\∃(c:List Value) (n:Nat),aW b c/\h.get? a=some {cls:=.type "list",data:=.seq c.toArray n}
 | .tup b=>b.length<=sizeLine/\∃c:List Value,aW b c/\IsTup h a c.toArray
 | .dK kvs=>kvs.length<=sizeLine/\(a == sysModules)=false/\∃j,KV kvs j/\h.DictOf (d7 P w) a j
 | .dT kvs=>kvs.length<=sizeLine/\(a == sysModules)=false/\∃b:List (List Key×Addr×Value),
   Paired (λ(p:List Key×V) (q:List Key×Addr×Value)=>p.1=q.1/\H q.2.1=some (.tup (p.1.map kV))/\RelV p.2 q.2.2) kvs b /\
   ∃o g i,h.get? a=some o/\o.ExactDict/\o.data=.dict g i/\g.toList=b.map (entryOfKey (tupleKind (d7 P w)))/\(b.map (·.1)).Nodup
 | .dN K kvs=>kvs.length<=sizeLine/\(a == sysModules)=false/\∃b:List (NK×Addr×Value),
   Paired (λ(p:NK×V) (q:NK×Addr×Value)=>p.1=q.1/\NAt K H p.1 q.2.1/\RelV p.2 q.2.2) kvs b /\
   ∃o g i,h.get? a=some o/\o.ExactDict/\o.data=.dict g i/\g.toList=b.map (entryOfKey (oH P w))/\(b.map (·.1)).Nodup
 | .set S n=>h.SetOf (intKind P w) a S n
 | .ins C dx fs=>H dx=some (.own a)/\fs.length<=1000/\dx≠a/\h.get? a=some (PySem.W.instObj C dx) /\
   ∃d,h.Ns1 dx d/\(∀f,eH (fs.lookup f) (d f))/\PySem.Within d (fs.map (·.1))
 | .own _=>∃o,h.get? a=some o
 | .xd fs=>∃d,h.Ns1 a d/\∀f,eH (fs.lookup f) (d f)
 | .rng lo hi=>∃t u v,h.get? a=some {cls:=.type "range",data:=.fields #[.int lo t,.int hi u,.int 1 v]}
 | .frz o u=>h.get? a=some o/\cC H h a u
 | .tbl ps=>h.get? a=some {cls:=.none,data:=.fields ps}
 | .met f x=>h.get? a=some (PySem.W.methodObj (.ref f) (.ref x))
 | .ext φ=>φ h/\(∃o,h.get? a=some o)/\∀h1 h2:Heap,φ h1->(∀o,h1.get? a=some o->h2.get? a=some o)->φ h2
def HOk(H:Hp)(h:Heap):Prop:=∀a o,H a=some o->cC P w H h a o
end
section
variable {P:Program}{w:World}{H H':Hp}{h h':Heap}{a:Addr}{o:HO}
theorem cC.lt(x:cC P w H h a o):a<h.objs.size:=by
 cases o with
 |lst b=>obtain⟨_,_,_,_,e⟩:=x;exact zj e
 |tup b=>obtain⟨_,_,_,p⟩:=x;exact p.lt
 |dK kvs=>obtain⟨_,_,_,_,o,_,_,e,_⟩:=x;exact zj e
 |dT kvs=>obtain⟨_,_,_,_,o,_,_,e,_⟩:=x;exact zj e
 |dN K kvs=>obtain⟨_,_,_,_,o,_,_,e,_⟩:=x;exact zj e
 |set S n=>obtain⟨o,_,_,_,e,_⟩:=x;exact zj e
 |ins C g fs=>obtain⟨_,_,_,e,_⟩:=x;exact zj e
 |own y=>obtain⟨_,e⟩:=x;exact zj e
 |xd fs=>obtain⟨_,⟨_,_,_,e,_⟩,_⟩:=x;exact zj e
 |rng lo d=>obtain⟨_,_,_,e⟩:=x;exact zj e
 |frz ob u=>obtain⟨e,_⟩:=x;exact zj e
 |tbl c=>exact zj (show h.get? a=some _ from x)
 |met f y=>exact zj (show h.get? a=some _ from x)
 |ext φ=>obtain⟨_,⟨_,e⟩,_⟩:=x;exact zj e
theorem Paired.mapP{α β:Type}{F G:α->β->Prop}:∀{d:List α}{c:List β},Paired F d c->(∀a b,F a b->G a b)->Paired G d c
 | _,_,.nil,_=>.nil
 | _,_,.cons r t,f=>.cons (f _ _ r) (Paired.mapP t f)
theorem cC.stay(x:cC P w H h a o)(k:∀b u,(b=a\/H b=some (.own a))->h.get? b=some u->h'.get? b=some u)
  (G:∀b,H b=some (.own a)->H' b=some (.own a)) (B:∀b xs,H b=some (.tup xs)->H' b=some (.tup xs)):cC P w H' h' a o:=by
 induction o with
 |lst xs=>obtain⟨z,j,n,r,e⟩:=x;exact⟨z,j,n,r,k _ _ (.inl rfl) e⟩
 |tup xs=>obtain⟨z,j,r,ob,e,c⟩:=x;exact⟨z,j,r,ob,k _ _ (.inl rfl) e,c⟩
 |dK kvs=>obtain⟨z,y,E,r,ob,g,i,e,c⟩:=x;exact⟨z,y,E,r,ob,g,i,k _ _ (.inl rfl) e,c⟩
 |dT kvs =>
  obtain⟨z,y,xs,r,ob,g,i,e,c⟩:=x;exact⟨z,y,xs,Paired.mapP r λp q z=>⟨z.1,B _ _ z.2.1,z.2.2⟩,ob,g,i,k _ _ (.inl rfl) e,c⟩
 |dN K kvs =>
  obtain⟨z,y,xs,r,ob,g,i,e,c⟩:=x;exact⟨z,y,xs,Paired.mapP r λp q z=>⟨z.1,z.2.1.mono B,z.2.2⟩,ob,g,i,k _ _ (.inl rfl) e,c⟩
 |set S n=>obtain⟨ob,g,i,t,e,c⟩:=x;exact⟨ob,g,i,t,k _ _ (.inl rfl) e,c⟩
 |ins C dx fs =>
  obtain⟨d,z,ne,e,m,⟨l,g,i,I,c⟩,r⟩:=x;exact⟨G _ d,z,ne,k _ _ (.inl rfl) e,m,⟨l,g,i,k _ _ (.inr d) I,c⟩,r⟩
 |own y=>obtain⟨ob,e⟩:=x;exact⟨ob,k _ _ (.inl rfl) e⟩
 |xd fs=>obtain⟨m,⟨l,g,i,e,c⟩,r⟩:=x;exact⟨m,⟨l,g,i,k _ _ (.inl rfl) e,c⟩,r⟩
 |rng lo J=>obtain⟨t,u,v,e⟩:=x;exact⟨t,u,v,k _ _ (.inl rfl) e⟩
 |frz ob u F=>obtain⟨e,q⟩:=x;exact⟨k _ _ (.inl rfl) e,F q⟩
 |tbl ps =>
  have e:h.get? a=some {cls:=.none,data:=.fields ps}:=x;show h'.get? a=some {cls:=.none,data:=.fields ps};exact k a _ (.inl rfl) e
 |met f y =>
  have e:h.get? a=some (PySem.W.methodObj (.ref f) (.ref y)):=x;show h'.get? a=some (PySem.W.methodObj (.ref f) (.ref y));exact k a _ (.inl rfl) e
 |ext φ=>obtain⟨p,⟨o,e⟩,st⟩:=x;exact⟨st _ _ p λo q=>k _ _ (.inl rfl) q,⟨o,k _ _ (.inl rfl) e⟩,st⟩
theorem HOk.lt(x:HOk P w H h)(e:H a=some o):a<h.objs.size:=(x a o e).lt
theorem HOk.fresh(x:HOk P w H h)(e:h.objs.size<=a):H a=none:=by
 cases q:H a with
 |none=>rfl
 |some u=>exact absurd (zF (x.lt q) e) (zQ _)
theorem HOk.kept(x:HOk P w H h)(k:∀b u,h.get? b=some u->h'.get? b=some u):HOk P w H h':=λa o e =>
 (x a o e).stay (λb u _ q=>k b u q) (λ_ q=>q) λ_ _ q=>q
theorem HOk.laid(x:HOk P w H h)(k:∀b u,h.get? b=some u->h'.get? b=some u)(i:h.objs.size<=a)(d:cC P w (upd H a o) h' a o):HOk P w (upd H a o) h':=λb u e=>by
 have f:=x.fresh i
 by_cases g:b=a
 ·subst g;rw[cg] at e;cases e;exact d
 ·rw[aQ g] at e
  exact(x b u e).stay (λc v _ q=>k c v q) (λc q=>by rw[aQ (cI q f)];exact q) λc j q=>by rw[aQ (cI q f)];exact q
end
def Rd(H:Hp)(a:Addr)(u:HO):Prop:=H a=some u\/∃o,H a=some (.frz o u)
theorem Rd.ok{P:Program}{w:World}{H:Hp}{h:Heap}{a:Addr}{u:HO}(r:Rd H a u)(x:HOk P w H h):cC P w H h a u:=by
 rcases r with r | ⟨o,r⟩
 ·exact x a u r
 ·obtain⟨_,q⟩:=x a _ r;exact q
def Mut:Option HO->Prop
 |some (.lst _)=>True
 |some (.dK _)=>True
 |some (.dT _)=>True
 |some (.dN _ _)=>True
 |some (.set _ _)=>True
 |some (.ins _ _ _)=>True
 |some (.ext _)=>True
 | _=>False
section
variable {P:Program}{w:World}{H:Hp}{h h':Heap}{x e:Addr}{o':HO}
theorem HOk.write(ok:HOk P w H h)(g:Mut (H x))(m:e=x\/H e=some (.own x))(k:∀b u,b≠e->h.get? b=some u->h'.get? b=some u)(l:∃u,h'.get? e=some u)
  (j:cC P w (upd H x o') h' x o'):HOk P w (upd H x o') h':=λb u q=>by
 have d:∀c y,H c=some (.own y)->c≠x:=λc y r z=>by subst z;rw[r] at g;exact g
 have f:∀c xs,H c=some (.tup xs)->c≠x:=λc xs r z=>by subst z;rw[r] at g;exact g
 by_cases hb:b=x
 ·subst hb;rw[cg] at q;cases q;exact j
 ·rw[aQ hb] at q
  by_cases a:b=e
  ·have q':H b=some (.own x):=by
    rcases m with z | z
    ·exact absurd (a.trans z) hb
    ·rw[a];exact z
   rw[q] at q';cases q';obtain⟨v,n⟩:=l;exact⟨v,by rw[a];exact n⟩
  ·refine(ok b u q).stay (λc v i r=>k c v ?_ r) (λc r=>by rw[aQ (d c b r)];exact r) λc xs r=>by rw[aQ (f c xs r)];exact r
   rcases i with rfl | i
   ·exact a
   ·rintro rfl
    rcases m with z | z
    ·exact d c b i z
    ·rw[i] at z;cases z;exact hb rfl
end
structure Un(fs ex:List Addr)(H H':Hp)(h h':Heap):Prop where
 keep:∀b o,h.get? b=some o->H b=none->b∉fs->b∉ex->h'.get? b=some o
 slot:∀b o,h.get? b=some o->H b=none->b∈fs->b∉ex->∃sl,h'.get? b=some {o with slots:=sl}
 free:∀b o,h.get? b=some o->H b=none->b∉ex->H' b=none
 there:∀b o,h.get? b=some o->b∉ex->∃o',h'.get? b=some o'
 tups:∀b xs,H b=some (.tup xs)->H' b=some (.tup xs)
 frzs:∀b o u,H b=some (.frz o u)->H' b=some (.frz o u)
 tbls:∀b ps,H b=some (.tbl ps)->∃more,H' b=some (.tbl (ps++more))
section
variable {fs fs' ex ex':List Addr}{H H1 H2:Hp}{h h1 h2 h':Heap}{a x e:Addr}{o:HO}
theorem Un.any(u:Un fs ex H H1 h h1){b:Addr}{ob:Obj}(q:h.get? b=some ob)(n:H b=none)(c:b∉ex):∃sl,h1.get? b=some {ob with slots:=sl}:=by
 by_cases d:b∈fs
 ·exact u.slot b ob q n d c
 ·exact⟨ob.slots,u.keep b ob q n d c⟩
theorem Un.kept(k:∀b u,h.get? b=some u->h'.get? b=some u):Un fs ex H H h h' :=
 ⟨λb ob q _ _ _=>k b ob q,λb ob q _ _ _=>⟨ob.slots,k b ob q⟩,λ_ _ _ n _=>n,λb ob q _=>⟨ob,k b ob q⟩,λ_ _ q=>q,λ_ _ _ q=>q,λ_ c q=>⟨#[],by rw[q];simp⟩⟩
theorem Un.refl:Un fs ex H H h h:=Un.kept λ_ _ q=>q
theorem Un.laid(k:∀b u,h.get? b=some u->h'.get? b=some u)(hp:h.objs.size<=a)(hn:H a=none):Un fs ex H (upd H a o) h h' where
 keep:=λb u q _ _ _=>k b u q
 slot:=λb u q _ _ _=>⟨u.slots,k b u q⟩
 free:=λb u q n _=>by rw[aQ (zp (zF (zj q) hp))];exact n
 there:=λb u q _=>⟨u,k b u q⟩
 tups:=λb xs q=>by rw[aQ (cI q hn)];exact q
 frzs:=λb u xs q=>by rw[aQ (cI q hn)];exact q
 tbls:=λb ps q=>⟨#[],by rw[aQ (cI q hn),q];simp⟩
theorem Un.write(d:Mut (H x))(m:e=x\/H e=some (.own x))(k:∀b u,b≠e->h.get? b=some u->h'.get? b=some u)(g:∃u,h'.get? e=some u):Un fs ex H (upd H x o) h h':=by
 have i:∀b,H b=none->b≠x:=λb n z=>by subst z;rw[n] at d;exact d
 have j:∀b,H b=none->b≠e:=λb n z=>by
  subst z
  rcases m with r | r
  ·exact i b n r
  ·rw[n] at r;cases r
 have f:∀b u,H b=some u->¬Mut (some u)->b≠x:=λb u q nm z=>by subst z;rw[q] at d;exact nm d
 refine⟨λb u q n _ _=>k b u (j b n) q,λb u q n _ _=>⟨u.slots,k b u (j b n) q⟩,λb u q n _=>by rw[aQ (i b n)];exact n,λb u q _=>?_,
  λb l q=>by rw[aQ (f b _ q λz=>z)];exact q,λb u l q=>by rw[aQ (f b _ q λz=>z)];exact q,λb t q=>⟨#[],by rw[aQ (f b _ q λz=>z),q];simp⟩⟩
 by_cases c:b=e
 ·subst c;exact g
 ·exact⟨u,k b u c q⟩
end
def trk(h:Heap)(H:Hp):List Addr:=(List.range h.objs.size).filter λa=>(H a).isSome
def fZ(h:Heap)(H:Hp):Heap:=PySem.W.hideAll h (trk h H)
theorem Gq(h:Heap)(H:Hp):(fZ h H).objs.size=h.objs.size:=PySem.W.hideAll_size _ _
theorem Gs{h:Heap}{H:Hp}{b:Addr}{o:Obj}(e:h.get? b=some o)(n:H b=none):(fZ h H).get? b=some o :=
 PySem.W.hideAll_get _ e λa=>by
  have q:(H b).isSome=true:=(List.mem_filter.mp a).2;rw[n] at q;simp at q
theorem Gu{h:Heap}{H:Hp}{b:Addr}{o:Obj}(e:(fZ h H).get? b=some o):h.get? b=some o/\H b=none:=by
 have e':h.get? b=some o:=PySem.W.of_hideAll (trk h H) e;refine⟨e',?_⟩
 cases q:H b with
 |none=>rfl
 |some x =>
  have a:b∈trk h H:=List.mem_filter.mpr ⟨List.mem_range.mpr (zj e'),by simp[q]⟩;have z:(fZ h H).get? b=none:=PySem.W.hideAll_none (trk h H) a;rw[z] at e;cases e
def QC(g h:Heap)(L:Addr):List (Addr×Obj):=(List.range h.objs.size).filterMap λa=>if a=L\/(g.get? a).isSome=true then none else(h.get? a).map λo=>(a,o)
def rest(g h:Heap)(L d:Addr):List (Addr×Obj):=(QC g h L).filter λp=>decide (p.1≠d)
structure Mod(K:PySem.W.Frag)(mg:Str->Option Value)(base:Heap):Prop where
 kin:K.In base
 glob:base.Ns mainGlobals mg
 blt:∃mb,base.Ns builtinsNs mb/\∀x:Str,x≠"__name__"->mb x=bootBuiltins x
 nolimit:base.NoLimit
structure Cx where
 prog:Program
 w:World
 K:PySem.W.Frag
 mg:Str->Option Value
 base:Heap
 A:Around
 N:List Str
 s₀:Shared
 H₀:Hp
 env:Env
 outer:List Env
 stack:List Env
 ex:List Addr
 fn:Str->Bool
 calm:Bool
 pn:List (Addr×Obj)
 xe:Value->Shared->Prop
def frs(l:List Env):List Addr:=l.filterMap (·.frame)
abbrev Cx.fs(X:Cx):List Addr:=frs X.outer
def Vis(a:Scope)(x:Str):Prop:=a.names.lookup x=some .local\/a.names.lookup x=some .cell\/a.names.lookup x=some .free
def Loc(a:Scope)(x:Str):Prop:=a.names.lookup x=some .local\/a.names.lookup x=some .cell
def Look(env:Env)(h:Heap)(m:Str->Option Value)(x:Str)(u:Value):Prop :=
 (env.kindOf x=some .local/\m x=some u)\/((env.kindOf x=some .cell\/env.kindOf x=some .free)/\∃c,env.cells.lookup x=some c/\h.IsCell c (some u))
structure Cx.Ok(X:Cx):Prop where
 mod:Mod X.K X.mg X.base
 kind:X.env.scope.kind=.function
 glob:X.env.globals=mainGlobals
 blt:X.env.builtins=builtinsNs
 above:X.s₀.heap.objs.size<=X.env.locals
 inj:∀x y c,X.env.cells.lookup x=some c->X.env.cells.lookup y=some c->x=y
 has:∀x,(X.env.kindOf x=some .cell\/X.env.kindOf x=some .free)->∃c,X.env.cells.lookup x=some c
 cab:∀x c,X.fn x=true->X.env.cells.lookup x=some c->X.s₀.heap.objs.size<=c
 hd:X.calm=true->X.A.handled=none
 frames:X.A.frames=some X.stack
 stk:X.stack=X.outer\/(X.stack=X.env::X.outer/\X.env.frame=some X.env.locals)
 exf:∀b∈X.ex,b≠X.env.locals/\∀x c,X.env.cells.lookup x=some c->c≠b
 bs:∀b o,X.base.get? b=some o->X.s₀.heap.get? b=some o/\X.H₀ b=none
 bsz:X.base.objs.size<=X.s₀.heap.objs.size
 noex:∀b o,X.base.get? b=some o->b∉X.ex
 exfs:∀b∈X.ex,b∉X.fs
 funs:X.s₀.heap.FunFrames X.base X.outer
 frf:∀b∈X.fs,X.H₀ b=none
structure Inv(X:Cx)(pins:List (Addr×Obj))(σ:List (Option V))(H:Hp)(s:Shared):Prop where
 ok:X.Ok
 os:s.os=X.s₀.os
 bare:AllBare s.gens
 base:Un X.fs X.ex X.H₀ H X.s₀.heap s.heap
 loc:∃m,s.heap.Ns X.env.locals m/\∀(i:Nat) (x:Str) (v:V),X.N[i]?=some x->σ[i]?=some (some v)->Vis X.env.scope x->∃u,RelV v u/\Look X.env s.heap m x u
 cell:∀x c,X.env.cells.lookup x=some c->∃v,s.heap.IsCell c v
 free:H X.env.locals=none
 freeC:∀x c,X.env.cells.lookup x=some c->H c=none
 pin:∀p∈X.pn++pins,s.heap.get? p.1=some p.2/\H p.1=none/\p.1≠X.env.locals/\p.1∉X.fs/\∀v,p.2.data≠.cell v
 hok:HOk X.prog X.w H s.heap
 len:σ.length=X.N.length
section
variable {X:Cx}{pins:List (Addr×Obj)}{σ:List (Option V)}{H H':Hp}{s:Shared}{h':Heap}
theorem Cx.Ok.nofr(ok:X.Ok){b:Addr}{o:Obj}(e:X.base.get? b=some o):b∉X.fs:=λa=>by
 have:=(ok.funs.mem a).1
 rw[e] at this;cases this
theorem Inv.bs(I:Inv X pins σ H s):∀b o,X.base.get? b=some o->s.heap.get? b=some o/\H b=none:=λb o e =>
 ⟨I.base.keep b o (I.ok.bs b o e).1 (I.ok.bs b o e).2 (I.ok.nofr e) (I.ok.noex b o e),I.base.free b o (I.ok.bs b o e).1 (I.ok.bs b o e).2 (I.ok.noex b o e)⟩
theorem Inv.bk(I:Inv X pins σ H s):∀b o,X.base.get? b=some o->s.heap.get? b=some o:=λb o e=>(I.bs b o e).1
theorem Inv.mod(I:Inv X pins σ H s):Mod X.K X.mg X.base:=I.ok.mod
theorem Inv.kIn(I:Inv X pins σ H s):X.K.In s.heap:=I.ok.mod.kin.keeps I.bk
theorem Inv.lt(I:Inv X pins σ H s):X.env.locals<s.heap.objs.size:=let ⟨_,hn,_⟩:=I.loc;hn.lt
theorem Inv.sz(I:Inv X pins σ H s):X.s₀.heap.objs.size<=s.heap.objs.size:=zG I.ok.above (Nat.le_of_lt I.lt)
theorem Inv.nofs(I:Inv X pins σ H s){a:Addr}(h:s.heap.objs.size<=a):a∉X.fs:=λc=>by
 obtain⟨_,o,b,_⟩:=I.ok.funs.mem c;exact absurd (zF (zj b) (zG I.sz h)) (zQ _)
theorem Inv.cne(I:Inv X pins σ H s):∀x c,X.env.cells.lookup x=some c->c≠X.env.locals:=λx c e z=>by
 obtain⟨v,o,d,hd⟩:=I.cell x c e;obtain⟨m,⟨f,g,h,a,b,_⟩,_⟩:=I.loc;rw[z,a] at d;cases d;rw[b] at hd;cases hd
theorem Inv.funs(I:Inv X pins σ H s):s.heap.FunFrames X.base X.outer:=by
 have all:∀(l:List Env),(∀b∈frs l,b∈X.fs)->X.s₀.heap.FunFrames X.base l->s.heap.FunFrames X.base l:=by
  intro l
  induction l with
  |nil=>intro _ _;trivial
  |cons env r ih =>
   intro f j;obtain⟨k,⟨L,o,a,i,h,hd⟩,g⟩:=j;have d:L∈X.fs:=f L (by unfold frs;rw[List.filterMap_cons,a];exact zg)
   obtain⟨sl,e⟩:=I.base.slot L o h (I.ok.frf L d) d λz=>I.ok.exfs L z d
   exact⟨k,⟨L,_,a,i,e,hd⟩,ih (λb c=>f b (by unfold frs;rw[List.filterMap_cons,a];exact zn _ c)) g⟩
 exact all X.outer (λ_ c=>c) I.ok.funs
theorem Inv.stack(I:Inv X pins σ H s):s.heap.FunFrames X.base X.stack:=by
 rcases I.ok.stk with e | ⟨e,b⟩
 ·rw[e];exact I.funs
 ·rw[e];obtain⟨m,a,_⟩:=I.loc;refine .cons (by rw[I.ok.kind];decide) b a ?_ I.funs;exact Heap.get?_none_of_le (zG I.ok.bsz I.ok.above)
theorem Inv.stkSub(I:Inv X pins σ H s):∀b∈frs X.stack,b∈X.env.locals::X.fs:=λb a=>by
 rcases I.ok.stk with e | ⟨e,c⟩
 ·rw[e] at a;exact zn _ a
 ·rw[e] at a;unfold frs at a;rw[List.filterMap_cons,c] at a;exact a
theorem Inv.stkFree(I:Inv X pins σ H s):∀b∈frs X.stack,H b=none:=λb a=>by
 rcases zk.mp (I.stkSub b a) with e | a
 ·rw[e];exact I.free
 ·obtain⟨_,o,c,_⟩:=I.ok.funs.mem a
  exact I.base.free b o c (I.ok.frf b a) λz=>I.ok.exfs b z a
theorem Inv.step{g':Array GenState}{t':Nat}{d':Drawn}{ch:List Addr}(I:Inv X pins σ H s)
  (g:∀b∈ch,(b∈X.ex\/X.s₀.heap.objs.size<=b)/\b≠X.env.locals/\(∀x c,X.env.cells.lookup x=some c->c≠b)/\∀p∈X.pn++pins,p.1≠b)
  (keep:∀b o,b≠X.env.locals->b∉X.fs->b∉ch->s.heap.get? b=some o->H b=none->h'.get? b=some o)
  (slot:∀b o,b≠X.env.locals->b∈X.fs->b∉ch->s.heap.get? b=some o->H b=none->∃sl,h'.get? b=some {o with slots:=sl}) (free:∀b o,b∉ch->s.heap.get? b=some o->H b=none->H' b=none)
  (there:∀b o,b∉ch->s.heap.get? b=some o->∃B,h'.get? b=some B)
  (tups:∀b xs,H b=some (.tup xs)->H' b=some (.tup xs)) (frzs:∀b o u,H b=some (.frz o u)->H' b=some (.frz o u)) (tbls:∀b ps,H b=some (.tbl ps)->∃more,H' b=some (.tbl (ps++more)))
  (ns:∀m,s.heap.Ns X.env.locals m->h'.Ns X.env.locals m) (hok:HOk X.prog X.w H' h') (R:AllBare g'):
  Inv X pins σ H' {s with heap:=h',gens:=g',drawn:=d',toks:=t'}:=by
 have E:∀b o,X.s₀.heap.get? b=some o->b≠X.env.locals:=λb o e=>zp (zF (zj e) I.ok.above)
 have j:∀b o,X.s₀.heap.get? b=some o->b∉X.ex->b∉ch:=λb o e a t=>by
  rcases(g b t).1 with z | z
  ·exact a z
  ·exact absurd (zF (zj e) z) (zQ _)
 have cellK:∀x c,X.env.cells.lookup x=some c->∀v,s.heap.IsCell c v->h'.IsCell c v:=λx c e v ⟨o,y,hd⟩=>by
  have f:c∉ch:=λz=>(g c z).2.2.1 x c e rfl
  by_cases J:c∈X.fs
  ·obtain⟨sl,q⟩:=slot c o (I.cne x c e) J f y (I.freeC x c e);exact⟨_,q,hd⟩
  ·exact⟨o,keep c o (I.cne x c e) J f y (I.freeC x c e),hd⟩
 refine⟨I.ok,I.os,R,⟨λb o e n t a=>?_,λb o e n t a=>?_,λb o e n a=>?_,λb o e a=>?_,λb xs e=>tups b xs (I.base.tups b xs e),λb o xs e=>frzs b o xs (I.base.frzs b o xs e),λb ps e=>?_⟩,?_,λx c e=>?_,?_,λx c e=>?_,λp G=>?_,hok,I.len⟩
 ·exact keep b o (E b o e) t (j b o e a) (I.base.keep b o e n t a) (I.base.free b o e n a)
 ·obtain⟨sl,h⟩:=I.base.slot b o e n t a;obtain⟨F,C⟩:=slot b _ (E b o e) t (j b o e a) h (I.base.free b o e n a);exact⟨F,C⟩
 ·obtain⟨B,h⟩:=I.base.there b o e a;exact free b B (j b o e a) h (I.base.free b o e n a)
 ·obtain⟨B,h⟩:=I.base.there b o e a;exact there b B (j b o e a) h
 ·obtain⟨O,h⟩:=I.base.tbls b ps e;obtain⟨L,C⟩:=tbls b _ h;exact⟨O++L,by rw[C,Array.append_assoc]⟩
 ·obtain⟨m,P,Q⟩:=I.loc;refine⟨m,ns m P,λi x v h C T=>?_⟩;obtain⟨u,r,l⟩:=Q i x v h C T;refine⟨u,r,?_⟩
  rcases l with l | ⟨k,c,e,z⟩
  ·exact .inl l
  ·exact .inr ⟨k,c,e,cellK x c e _ z⟩
 ·obtain⟨v,z⟩:=I.cell x c e;exact⟨v,cellK x c e v z⟩
 ·obtain⟨m,⟨o,_,_,y,_⟩,_⟩:=I.loc;exact free _ o (λz=>(g _ z).2.1 rfl) y I.free
 ·obtain⟨v,o,y,hd⟩:=I.cell x c e;exact free c o (λz=>(g c z).2.2.1 x c e rfl) y (I.freeC x c e)
 ·obtain⟨e,n,ne,nf,d⟩:=I.pin p G
  have f:p.1∉ch:=λz=>(g p.1 z).2.2.2 p G rfl
  exact⟨keep p.1 p.2 ne nf f e n,free p.1 p.2 f e n,ne,nf,d⟩
theorem Inv.un{t':Nat}(I:Inv X pins σ H s)(u:Un X.fs [] H H' s.heap h')(hok:HOk X.prog X.w H' h'):Inv X pins σ H' {s with heap:=h',toks:=t'}:=by
 obtain⟨m,⟨o,q,t,g,r⟩,_⟩:=id I.loc;obtain⟨sl,j⟩:=u.any g I.free (by simp)
 exact I.step (g':=s.gens) (d':=s.drawn) (ch:=[]) (λ_ z=>nomatch z) (λb o _ c _ e n=>u.keep b o e n c (by simp)) (λb o _ c _ e n=>u.slot b o e n c (by simp)) (λb o _ e n=>u.free b o e n (by simp)) (λb o _ e=>u.there b o e (by simp)) u.tups u.frzs u.tbls (λl i=>by
  obtain⟨k,d,f,a,h⟩:=i;rw[g] at a;cases a
  exact⟨_,d,f,j,h⟩) hok I.bare
theorem Inv.call{g':Array GenState}{t':Nat}{d':Drawn}{ch:List Addr}(I:Inv X pins σ H s)(u:Un (frs X.stack) ch H H' s.heap h')(hok:HOk X.prog X.w H' h')(q:AllBare g')
  (f:∀b∈ch,(b∈X.ex\/X.s₀.heap.objs.size<=b)/\b≠X.env.locals/\(∀x c,X.env.cells.lookup x=some c->c≠b)/\∀p∈X.pn++pins,p.1≠b):
  Inv X pins σ H' {s with heap:=h',gens:=g',drawn:=d',toks:=t'}:=by
 obtain⟨m,⟨o,C,E,j,r⟩,_⟩:=id I.loc
 obtain⟨sl,g⟩:=u.any j I.free λz=>(f _ z).2.1 rfl
 exact I.step (ch:=ch) f (λb o g t a e n=>u.keep b o e n (λz=>(zk.mp (I.stkSub b z)).elim g t) a) (λb o _ _ a e n=>u.any e n a) (λb o a e n=>u.free b o e n a) (λb o a e=>u.there b o e a) u.tups u.frzs u.tbls (λB l=>by
  obtain⟨y,h,i,d,k⟩:=l;rw[j] at d;cases d
  exact⟨_,h,i,g,k⟩) hok q
theorem Inv.turned{t':Nat}{it:Addr}(I:Inv X pins σ H s)(k:∀b o,b≠it->s.heap.get? b=some o->h'.get? b=some o)(h:H it=none)(f:it≠X.env.locals)
  (h1:it∈X.ex\/X.s₀.heap.objs.size<=it) (h2:∀x c,X.env.cells.lookup x=some c->c≠it) (h3:∀p∈X.pn++pins,p.1≠it):Inv X pins σ H {s with heap:=h',toks:=t'}:=by
 have d:∀b u,H b=some u->b≠it:=λb u e z=>by rw[z,h] at e;cases e
 refine I.step (g':=s.gens) (d':=s.drawn) (ch:=[it]) (λb j=>?_) (λb o _ _ a e _=>k b o (λz=>a (by simp[z])) e) (λb o _ _ a e _=>⟨o.slots,k b o (λz=>a (by simp[z])) e⟩) (λ_ _ _ _ n=>n)
  (λb o a e=>⟨o,k b o (λz=>a (by simp[z])) e⟩) (λ_ _ e=>e) (λ_ _ _ e=>e) (λb y e=>⟨#[],by rw[e];simp⟩) (λm i=>?_) (λb u e=>?_) I.bare
 ·have e:b=it:=by simpa using j
  subst e;exact⟨h1,f,h2,h3⟩
 ·obtain⟨o,l,t,g,r⟩:=i;exact⟨o,l,t,k _ o (Ne.symm f) g,r⟩
 ·refine(I.hok b u e).stay (λc v a q=>k c v ?_ q) (λ_ q=>q) λ_ _ q=>q
  rcases a with z | z
  ·rw[z];exact d b u e
  ·exact d c _ z
theorem Inv.tok(I:Inv X pins σ H s)(t:Nat):Inv X pins σ H {s with toks:=t}:=I.un (h':=s.heap) (t':=t) Un.refl I.hok
theorem Inv.kept{t':Nat}(I:Inv X pins σ H s)(k:∀b u,s.heap.get? b=some u->h'.get? b=some u):Inv X pins σ H {s with heap:=h',toks:=t'}:=I.un (Un.kept k) (I.hok.kept k)
theorem Inv.laid{a:Addr}{o:HO}{t':Nat}(I:Inv X pins σ H s)(k:∀b u,s.heap.get? b=some u->h'.get? b=some u)(c:s.heap.objs.size<=a)(d:cC X.prog X.w (upd H a o) h' a o):
  Inv X pins σ (upd H a o) {s with heap:=h',toks:=t'}:=I.un (Un.laid k c (I.hok.fresh c)) (I.hok.laid k c d)
theorem Inv.write{x e:Addr}{o:HO}{t':Nat}(I:Inv X pins σ H s)(d:Mut (H x))(f:e=x\/H e=some (.own x))(k:∀b u,b≠e->s.heap.get? b=some u->h'.get? b=some u)(a:∃u,h'.get? e=some u)
  (c:cC X.prog X.w (upd H x o) h' x o):Inv X pins σ (upd H x o) {s with heap:=h',toks:=t'}:=I.un (Un.write d f k a) (I.hok.write d f k a c)
theorem Inv.pins_of{a:List (Addr×Obj)}(I:Inv X pins σ H s)(h:∀p∈a,s.heap.get? p.1=some p.2/\H p.1=none/\p.1≠X.env.locals/\p.1∉X.fs/\∀v,p.2.data≠.cell v):Inv X a σ H s :=
 ⟨I.ok,I.os,I.bare,I.base,I.loc,I.cell,I.free,I.freeC,λp b=>(zE.mp b).elim (λz=>I.pin p (List.mem_append_left _ z)) (h p),I.hok,I.len⟩
theorem Gv{N:List Str}(hN:N.Nodup){i j:Nat}{x:Str}(a:N[i]?=some x)(b:N[j]?=some x):i=j:=by
 obtain⟨h1,d⟩:=zq.mp a;obtain⟨h2,c⟩:=zq.mp b;exact(List.getElem_inj hN).mp (d.trans c.symm)
theorem QD{M:Model}{A:Around}{E:Value->Shared->Prop}{i:Nat}{x:Str}{v:V}{u:Value}{Q:Unit->Shared->Prop}(I:Inv X pins σ H s)(hN:X.N.Nodup)(P:X.N[i]?=some x)(t:Loc X.env.scope x)(r:RelV v u)
  (h:∀s',Inv X pins (σ.set i (some v)) H s'->(∃a,Heap.SameBut a s.heap s'.heap/\(a=X.env.locals\/X.env.cells.lookup x=some a))->Q () s') (hf:X.fn x=true\/X.env.scope.names.lookup x=some .local:=by first | exact .inl rfl | exact .inr rfl | assumption):wpAny M A (storeName X.env x u) Q E s:=by
 obtain⟨m,hn,hl⟩:=id I.loc
 have Y:(X.env.scope.kind == .class || (X.env.scope.kind == .module&&X.env.locals != X.env.globals))=false:=by rw[I.ok.kind];rfl
 have G:i<σ.length:=by rw[I.len];exact(zq.mp P).1
 have cne:=I.cne
 have tracked:∀{a:Addr}{h':Heap},(∃o,s.heap.get? a=some o/\H a=none)->Heap.SameBut a s.heap h'->HOk X.prog X.w H h':=λ{a h'} ha f b ob e=>by
  obtain⟨_,_,B⟩:=ha
  refine(I.hok b ob e).stay (λc Z l q=>(f.2 c ?_).trans q) (λ_ q=>q) λ_ _ q=>q
  rintro rfl
  rcases l with rfl | l
  ·rw[B] at e;cases e
  ·rw[B] at l;cases l
 rcases t with F | F
 ·refine wpAny_storeName_local F hn (λh' hn' f=>?_) Y;obtain⟨oL,_,_,hoL,_⟩:=id hn;refine h _ ⟨I.ok,I.os,I.bare,⟨λb o e n L t=>?_,λb o e n L t=>?_,I.base.free,λb o e t=>?_,I.base.tups,I.base.frzs,I.base.tbls⟩,⟨_,hn',λj y v' g C e3=>?_⟩,λy c e=>?_,I.free,I.freeC,λp hp=>?_,tracked ⟨oL,hoL,I.free⟩ f,by simpa using I.len⟩ ⟨_,f,.inl rfl⟩
  ·exact(f.2 b (zp (zF (zj e) I.ok.above))).trans (I.base.keep b o e n L t)
  ·obtain⟨sl,g⟩:=I.base.slot b o e n L t;exact⟨sl,(f.2 b (zp (zF (zj e) I.ok.above))).trans g⟩
  ·obtain⟨o',g⟩:=I.base.there b o e t;exact⟨o',(f.2 b (zp (zF (zj e) I.ok.above))).trans g⟩
  ·by_cases J:j=i
   ·subst J;rw[P] at g;cases g;rw[zM G] at C;cases C;exact⟨u,r,.inl ⟨F,by simp⟩⟩
   ·rw[zv (Ne.symm J)] at C;obtain⟨u',r',q⟩:=hl j y v' g C e3;refine⟨u',r',?_⟩
    rcases q with⟨k,e⟩ | ⟨k,c,e,z⟩
    ·refine .inl ⟨k,?_⟩
     have:y≠x:=λe=>J (Gv hN g (e ▸ P))
     simp[this,e]
    ·exact .inr ⟨k,c,e,z.sameBut f (cne y c e)⟩
  ·obtain⟨Z,z⟩:=I.cell y c e;exact⟨Z,z.sameBut f (cne y c e)⟩
  ·obtain⟨e,n,ne,nf,d⟩:=I.pin p hp;exact⟨(f.2 p.1 ne).trans e,n,ne,nf,d⟩
 ·have O:X.fn x=true:=by
   rcases hf with z | z
   ·exact z
   ·rw[z] at F;cases F
  obtain⟨c,l⟩:=I.ok.has x (.inl F);obtain⟨Z,z⟩:=I.cell x c l;refine wpAny_storeName_cell I.ok.kind F l z (λh' U f=>?_);obtain⟨oc,R,W⟩:=id z;refine h {s with heap:=h'} ⟨I.ok,I.os,I.bare,⟨λb o e n L t=>?_,λb o e n L t=>?_,I.base.free,λb o e t=>?_,I.base.tups,I.base.frzs,I.base.tbls⟩,⟨m,hn.sameBut f (Ne.symm (cne x c l)),λj y v' g C e3=>?_⟩,λy c' e=>?_,I.free,I.freeC,λp hp=>?_,tracked ⟨oc,R,I.freeC x c l⟩ f,by simpa using I.len⟩ ⟨c,f,.inr l⟩
  ·exact(f.2 b (zp (zF (zj e) (I.ok.cab x c O l)))).trans (I.base.keep b o e n L t)
  ·obtain⟨sl,g⟩:=I.base.slot b o e n L t;exact⟨sl,(f.2 b (zp (zF (zj e) (I.ok.cab x c O l)))).trans g⟩
  ·obtain⟨o',g⟩:=I.base.there b o e t;exact⟨o',(f.2 b (zp (zF (zj e) (I.ok.cab x c O l)))).trans g⟩
  ·by_cases J:j=i
   ·subst J;rw[P] at g;cases g;rw[zM G] at C;cases C;exact⟨u,r,.inr ⟨.inl F,c,l,U⟩⟩
   ·rw[zv (Ne.symm J)] at C;obtain⟨u',r',q⟩:=hl j y v' g C e3;refine⟨u',r',?_⟩
    rcases q with q | ⟨k,c',e,z'⟩
    ·exact .inl q
    ·refine .inr ⟨k,c',e,z'.sameBut f ?_⟩;rintro rfl;exact J (Gv hN g (I.ok.inj _ _ _ e l ▸ P))
  ·by_cases T:c'=c
   ·subst T;exact⟨_,U⟩
   ·obtain⟨w2,z2⟩:=I.cell y c' e;exact⟨w2,z2.sameBut f T⟩
  ·obtain⟨e,n,ne,nf,d⟩:=I.pin p hp;refine⟨(f.2 p.1 ?_).trans e,n,ne,nf,d⟩;intro q;rw[q,R] at e;have q':oc=p.2:=zD e;exact d Z (by rw[<-q'];exact W)
theorem wU{M:Model}{A:Around}{E:Value->Shared->Prop}{i:Nat}{x:Str}{v:V}{u:Value}{Q:Unit->Shared->Prop}(I:Inv X pins σ H s)(hN:X.N.Nodup)(c:X.N[i]?=some x)(b:Loc X.env.scope x)(r:RelV v u)
  (h:∀a,Inv X pins (σ.set i (some v)) H a->Q () a) (d:X.fn x=true\/X.env.scope.names.lookup x=some .local:=by first | exact .inl rfl | exact .inr rfl | assumption):wpAny M A (storeName X.env x u) Q E s :=
 QD I hN c b r (λa I' _=>h a I') d
theorem Inv.call'{a:Shared}{ch:List Addr}(I:Inv X pins σ H s)(g:a.os=s.os)(u:Un (frs X.stack) ch H H' s.heap a.heap)(hok:HOk X.prog X.w H' a.heap)(h:AllBare a.gens)
  (d:∀b∈ch,(b∈X.ex\/X.s₀.heap.objs.size<=b)/\b≠X.env.locals/\(∀x c,X.env.cells.lookup x=some c->c≠b)/\∀p∈X.pn++pins,p.1≠b):Inv X pins σ H' a:=by
 obtain⟨h',g',d',t',f⟩:=a;have e:f=s.os:=g;subst e;exact I.call (g':=g') (t':=t') (d':=d') u hok h d
end
abbrev XK:=Value->Option Addr->Hp->Prop
abbrev St:=List (Option V)
abbrev VK:=V->Hp->Prop
abbrev TE:=St->Hp->VK->Prop
abbrev TT:=St->Hp->(Bool->Hp->Prop)->Prop
abbrev TA:=St->Hp->(List V->Hp->Prop)->Prop
structure Ends where
 nx:St->Hp->Prop
 rt:VK
 bk:St->Hp->Prop:=λ_ _=>False
 ct:St->Hp->Prop:=λ_ _=>False
abbrev TS:=Ends->St->Hp->Prop
def EP(X:Cx)(pins:List (Addr×Obj))(σ:St)(Q:VK)(u:Value)(b:Shared):Prop:=∃v a,Inv X pins σ a b/\RelV v u/\Q v a
def TP(X:Cx)(pins:List (Addr×Obj))(σ:St)(Q:Bool->Hp->Prop)(b:Bool)(c:Shared):Prop:=∃a,Inv X pins σ a c/\Q b a
def AP(X:Cx)(pins:List (Addr×Obj))(σ:St)(Q:List V->Hp->Prop)(us:List Value)(c:Shared):Prop:=∃a b,Inv X pins σ b c/\aW a us/\Q a b
def SP(X:Cx)(pins:List (Addr×Obj))(D:Ends)(f:Flow)(c:Shared):Prop :=
 match f with
 | .next=>∃a b,Inv X pins a b c/\D.nx a b
 | .brk=>∃a b,Inv X pins a b c/\D.bk a b
 | .cont=>∃a b,Inv X pins a b c/\D.ct a b
 | .ret u=>∃v a b,Inv X pins a b c/\RelV v u/\D.rt v b
def PE(X:Cx)(e:Expr)(t:TE):Prop :=
 ∀(pins:List (Addr×Obj)) (s:Shared) (σ:St) (H:Hp) (Q:VK),Inv X pins σ H s->t σ H Q->wpAny (model X.prog X.w) X.A (eval e X.env) (EP X pins σ Q) X.xe s
def PT(X:Cx)(e:Expr)(t:TT):Prop :=
 ∀(pins:List (Addr×Obj)) (s:Shared) (σ:St) (H:Hp) (Q:Bool->Hp->Prop),Inv X pins σ H s->t σ H Q->wpAny (model X.prog X.w) X.A (isTrue e X.env (eval e X.env)) (TP X pins σ Q) X.xe s
def PW(X:Cx)(e:Expr)(t:TT):Prop :=
 ∀(whole:Sem Value) (pins:List (Addr×Obj)) (s:Shared) (σ:St) (H:Hp) (Q:Bool->Hp->Prop),Inv X pins σ H s->t σ H Q->wpAny (model X.prog X.w) X.A (isTrue e X.env whole) (TP X pins σ Q) X.xe s
theorem PW.pt{X:Cx}{e:Expr}{t:TT}(h:PW X e t):PT X e t:=h _
def PA(X:Cx)(es:List Expr)(t:TA):Prop :=
 ∀(a:Pos) (pins:List (Addr×Obj)) (s:Shared) (σ:St) (H:Hp) (Q:List V->Hp->Prop),Inv X pins σ H s->t σ H Q->wpAny (model X.prog X.w) X.A (spliced (backTo a (starEach es X.env))) (AP X pins σ Q) X.xe s
def PS(X:Cx)(st:Stmt)(t:TS):Prop :=
 ∀(pins:List (Addr×Obj)) (s:Shared) (σ:St) (H:Hp) (D:Ends),Inv X pins σ H s->t D σ H->wpAny (model X.prog X.w) X.A (exec st X.env) (SP X pins D) X.xe s
def PSs(X:Cx)(st:List Stmt)(t:TS):Prop :=
 ∀(pins:List (Addr×Obj)) (s:Shared) (σ:St) (H:Hp) (D:Ends),Inv X pins σ H s->t D σ H->wpAny (model X.prog X.w) X.A (execs st X.env) (SP X pins D) X.xe s
theorem thn{α:Type}{t:Sem α}{Q b:α->Shared->Prop}{M:Model}{A:Around}{E:Value->Shared->Prop}{s:Shared}(h:wpAny M A t Q E s)(c:∀a s,Q a s->b a s):wpAny M A t b E s:=zN h c λ_ _ x=>x
section
variable {X:Cx}
def QF(i:Nat):TE:=λσ H Q=>∃v,σ[i]?=some (some v)/\Q v H
def tC(v:V):TE:=λ_ H Q=>Q v H
theorem lM{i:Nat}{x:Str}{f:Pos}(hN:X.N[i]?=some x)(hv:Vis X.env.scope x)(hd:(x == ("__debug__":Str))=false:=by decide)(g:(x == ("__classdict__":Str))=false:=by decide):PE X (.Name x f) (QF i):=by
 intro pins s σ H Q I h;obtain⟨v,e,h⟩:=h;obtain⟨m,k,q⟩:=I.loc;obtain⟨u,r,l⟩:=q i x v hN e hv;have d:EP X pins σ Q u s:=⟨v,H,I,r,h⟩
 rcases l with⟨b,n⟩ | ⟨b,c,j,a⟩
 ·exact wpAny_Name (wpAny_loadName_local I.ok.kind b k n d) hd
 ·rcases b with b | b
  ·exact wpAny_Name (wpAny_loadName_cell I.ok.kind b j a d) hd
  ·exact wpAny_Name (wpAny_loadName_free I.ok.kind b j a d g) hd
theorem QG{i j pos}:PE X (.Constant (.int i) j pos) (tC (.int i)):=λ_ _ _ H _ I h=>wpAny_Constant_int ⟨.int i,H,I.tok _,⟨_,rfl⟩,h⟩
theorem QH{b j pos}:PE X (.Constant (.bool b) j pos) (tC (.bl b)):=λ_ _ _ H _ I h=>Constant_bool ⟨.bl b,H,I,rfl,h⟩
theorem QJ{j pos}:PE X (.Constant .none j pos) (tC .non):=λ_ _ _ H _ I h=>Constant_none ⟨.non,H,I,rfl,h⟩
theorem Gw{x j pos}:PE X (.Constant (.str x) j pos) (tC (.str x)):=λ_ _ _ H _ I h=>Calls.Constant_str ⟨.str x,H,I.tok _,⟨_,rfl⟩,h⟩
def Gl(X:Cx)(x:Str):Prop:=X.env.kindOf x=some .globalImplicit
theorem qD{E:Value->Shared->Prop}{pins:List (Addr×Obj)}{s:Shared}{σ:St}{H:Hp}{x:Str}{u:Value}{a:Pos}{Q:Value->Shared->Prop}(I:Inv X pins σ H s)(c:Gl X x)(b:X.mg x=some u)(h:Q u s)
  (hd:(x == ("__debug__":Str))=false:=by decide):wpAny (model X.prog X.w) X.A (eval (.Name x a) X.env) Q E s :=
 Calls.Name_function_global I.ok.kind c (Calls.loadGlobal_global (by rw[I.ok.glob];exact I.mod.glob.keeps I.bk) b h) hd
theorem j6{E:Value->Shared->Prop}{pins:List (Addr×Obj)}{s:Shared}{σ:St}{H:Hp}{x:Str}{u:Value}{a:Pos}{Q:Value->Shared->Prop}(I:Inv X pins σ H s)(d:Gl X x)(c:X.mg x=none)(hv:bootBuiltins x=some u)(h:Q u s)
  (b:x≠"__name__":=by decide) (hd:(x == ("__debug__":Str))=false:=by decide):wpAny (model X.prog X.w) X.A (eval (.Name x a) X.env) Q E s:=by
 obtain⟨mb,h1,h2⟩:=I.mod.blt;exact Calls.Name_function_global I.ok.kind d (Calls.loadGlobal_builtin (by rw[I.ok.glob];exact I.mod.glob.keeps I.bk) c (by rw[I.ok.blt];exact h1.keeps I.bk) ((h2 x b).trans hv) h) hd
theorem QK{x:Str}{v:V}{u:Value}{a:Pos}(c:Gl X x)(b:X.mg x=some u)(r:RelV v u)(hd:(x == ("__debug__":Str))=false:=by decide):PE X (.Name x a) (tC v):=
 λ_ _ _ H _ I h=>qD I c b ⟨v,H,I,r,h⟩ hd
theorem QL{x:Str}{v:V}{u:Value}{a:Pos}(d:Gl X x)(c:X.mg x=none)(hv:bootBuiltins x=some u)(r:RelV v u)(b:x≠"__name__":=by decide)(hd:(x == ("__debug__":Str))=false:=by decide):PE X (.Name x a) (tC v):=
 λ_ _ _ H _ I h=>j6 I d c hv ⟨v,H,I,r,h⟩ b hd
variable {a b:Expr}{ta tb:TE}{pos:Pos}
def PC(X:Cx)(op:CmpOp)(a b:Expr)(t:TE):Prop :=
 ∀(pins:List (Addr×Obj)) (s:Shared) (σ:St) (H:Hp) (Q:VK),Inv X pins σ H s->t σ H Q ->
  wpAny (model X.prog X.w) X.A (eval a X.env) (λv d=>wpAny (model X.prog X.w) X.A (eval b X.env) (λu c=>wpAny (model X.prog X.w) X.A (compareOp op v u) (EP X pins σ Q) X.xe c) X.xe d) X.xe s
theorem QM(b:Expr){op:CmpOp}(h:op≠.In)(h2:op≠.NotIn):behindInMarks op b=false:=by
 have d:(op == CmpOp.In)=false:=by cases op<;>first | rfl | exact absurd rfl h
 have c:(op == CmpOp.NotIn)=false:=by cases op<;>first | rfl | exact absurd rfl h2
 cases b<;>simp[behindInMarks,d,c]
def Gx(ta:TE):TE:=λσ H Q=>ta σ H λx c=>Q (.bl (decide (x=.non))) c
def Gy(ta:TE):TE:=λσ H Q=>ta σ H λx c=>Q (.bl (!decide (x=.non))) c
theorem RelV.none_iff{x:V}{v:Value}(r:RelV x v):(v == Value.none)=decide (x=.non):=by
 cases x with
 |non=>cases r;rfl
 |bl _=>cases r;rfl
 |int _=>obtain⟨t,rfl⟩:=r;rfl
 |str _=>obtain⟨t,rfl⟩:=r;rfl
 |byt _=>obtain⟨t,rfl⟩:=r;rfl
 |flt _=>obtain⟨t,rfl⟩:=r;rfl
 |ref _=>cases r;rfl
 |ty _=>cases r;rfl
theorem QQ{j pos'}(c:PE X a ta):PC X .Is a (.Constant .none j pos') (Gx ta):=by
 intro pins s σ H Q I h
 refine thn (c pins s σ H _ I h) λv s1 ⟨x,H1,I1,r1,q1⟩=>?_
 exact Constant_none (is_none_gen ⟨.bl _,H1,I1,by rw[r1.none_iff];rfl,q1⟩)
theorem QR{j pos'}(c:PE X a ta):PC X .IsNot a (.Constant .none j pos') (Gy ta):=by
 intro pins s σ H Q I h
 refine thn (c pins s σ H _ I h) λv s1 ⟨x,H1,I1,r1,q1⟩=>?_
 exact Constant_none (isnot_none_gen ⟨.bl _,H1,I1,by rw[r1.none_iff];rfl,q1⟩)
def tB(t:TE):TT:=λσ H Q=>t σ H λx d=>∃c,x=.bl c/\Q c d
theorem Gz{op:CmpOp}{t:TE}(h:PC X op a b t)(h1:behindInMarks op b=false:=by first | exact QM _ (by decide) (by decide) | rfl):PT X (.Compare a [op] [b] pos) (tB t):=by
 intro pins s σ H Q I f;refine wpAny_isTrue_Compare1 (thn (h pins s σ H _ I f) λv i h1=>thn h1 λu g h2=>thn h2 λc s3 ⟨x,H1,I1,r1,q1⟩=>?_) h1;obtain⟨d,rfl,q⟩:=q1;cases r1;exact wpAny_truthy_bool ⟨H1,I1,q⟩
variable {tA tB':TT}{rest:List Expr}
def GC(t u:TT):TT:=λσ H Q=>t σ H λc d=>if c=true then u σ d Q else Q false d
def tOr(t u:TT):TT:=λσ H Q=>t σ H λc d=>if c=true then Q true d else u σ d Q
def QS(t:TT):TT:=λσ H Q=>t σ H λc d=>Q (!c) d
theorem QT(d:PT X a tA):PW X (.BoolOp .And [a] pos) tA:=by
 intro f pins s σ H Q I h;refine isTrue_and (thn (d pins s σ H Q I h) λc g e=>?_)
 cases c with
 |true=>exact isTrue_and_nil e
 |false=>exact e
theorem QV(d:PT X a tA):PW X (.BoolOp .Or [a] pos) tA:=by
 intro f pins s σ H Q I h;refine isTrue_or (thn (d pins s σ H Q I h) λc g e=>?_)
 cases c with
 |false=>exact isTrue_or_nil e
 |true=>exact e
theorem QW(f:PT X a tA)(hb:PW X (.BoolOp .And (b::rest) pos) tB'):PW X (.BoolOp .And (a::b::rest) pos) (GC tA tB'):=by
 intro d pins s σ H Q I h;refine isTrue_and (thn (f pins s σ H _ I h) λc s1 ⟨H1,I1,q1⟩=>?_)
 cases c with
 |true=>exact hb d pins s1 σ H1 Q I1 q1
 |false=>exact⟨H1,I1,q1⟩
theorem QX(f:PT X a tA)(hb:PW X (.BoolOp .Or (b::rest) pos) tB'):PW X (.BoolOp .Or (a::b::rest) pos) (tOr tA tB'):=by
 intro d pins s σ H Q I h;refine isTrue_or (thn (f pins s σ H _ I h) λc s1 ⟨H1,I1,q1⟩=>?_)
 cases c with
 |true=>exact⟨H1,I1,q1⟩
 |false=>exact hb d pins s1 σ H1 Q I1 q1
theorem QZ(d:PT X a tA):PT X (.UnaryOp .Not a pos) (QS tA):=by
 intro pins s σ H Q I h;exact isTrue_not (d pins s σ H (λc f=>Q (!c) f) I h)
def Q0(ta tb:TE):TE:=λσ H Q=>ta σ H λx d=>∃c,x=.bl c/\if c=true then tb σ d Q else Q (.bl false) d
theorem Q3{op}{t:TE}(h:PE X a t):PE X (.BoolOp op [a] pos) t:=λpins s σ H Q I c=>BoolOp_one (h pins s σ H Q I c)
theorem Q4(f:PE X a ta)(hb:PE X (.BoolOp .And (b::rest) pos) tb):PE X (.BoolOp .And (a::b::rest) pos) (Q0 ta tb):=by
 intro pins s σ H Q I h;refine BoolOp_and (thn (f pins s σ H _ I h) λv s1 ⟨x,H1,I1,r1,d⟩=>?_);obtain⟨c,rfl,d⟩:=d;cases r1;refine wpAny_truthy_bool ?_
 cases c with
 |true=>exact hb pins s1 σ H1 Q I1 d
 |false=>exact⟨.bl false,H1,I1,rfl,d⟩
def tIf(t:TT)(ta tb:TE):TE:=λσ H Q=>t σ H λc d=>if c=true then ta σ d Q else tb σ d Q
theorem GD{c:Expr}(f:PT X c tA)(g:PE X a ta)(hb:PE X b tb):PE X (.IfExp c a b pos) (tIf tA ta tb):=by
 intro pins s σ H Q I h;refine wpAny_IfExp (thn (f pins s σ H _ I h) λd s1 ⟨H1,I1,q1⟩=>?_)
 cases d with
 |true=>exact g pins s1 σ H1 Q I1 q1
 |false=>exact hb pins s1 σ H1 Q I1 q1
end
def SqL(K:PySem.W.Frag)(H:Hp)(a:Addr)(xs:List V):Prop :=
 Rd H a (.lst xs) \/
  ∃(o:Obj) (b:Array Value) (n:Nat),K.lookup a=some o/\o.cls=.type "list"/\o.dict=none/\o.data=.seq b n/\b.size<=sizeLine/\aW xs b.toList
def SqT(K:PySem.W.Frag)(H:Hp)(a:Addr)(xs:List V):Prop :=
 Rd H a (.tup xs) \/
  ∃(o:Obj) (b:Array Value) (n:Nat),K.lookup a=some o/\o.cls=.type "tuple"/\o.data=.seq b n/\b.size<=sizeLine/\aW xs b.toList
def Q5:Value->Option V
 | .none=>some .non
 | .bool b=>some (.bl b)
 | .int i _=>some (.int i)
 | .str x _=>some (.str x)
 | .bytes b _=>some (.byt b)
 | .float b _=>some (.flt b)
 | .ref a=>some (.ref a)
 | .type n=>some (.ty n)
 | _=>none
theorem RelV.abs{x:V}{u:Value}(r:RelV x u):Q5 u=some x:=by
 cases x with
 |non=>cases r;rfl
 |bl _=>cases r;rfl
 |int _=>obtain⟨t,rfl⟩:=r;rfl
 |str _=>obtain⟨t,rfl⟩:=r;rfl
 |byt _=>obtain⟨t,rfl⟩:=r;rfl
 |flt _=>obtain⟨t,rfl⟩:=r;rfl
 |ref _=>cases r;rfl
 |ty _=>cases r;rfl
theorem RelV.inj{x y:V}{u:Value}(r:RelV x u)(q:RelV y u):x=y:=zD (r.abs.symm.trans q.abs)
theorem aW.inj:∀{xs ys:List V}{us:List Value},aW xs us->aW ys us->xs=ys
 | _,_,_,.nil,.nil=>rfl
 | _,_,_,.cons r t,.cons r' t'=>by rw[r.inj r',aW.inj t t']
section
variable {X:Cx}{pins:List (Addr×Obj)}{σ:St}{H:Hp}{s:Shared}{a:Addr}{xs ys:List V}
theorem Inv.list(I:Inv X pins σ H s)(h:SqL X.K H a xs):∃its:List Value,aW xs its/\PlainL s.heap a its.toArray/\xs.length<=sizeLine:=by
 rcases h with h | ⟨o,its,n,c,d,hd,b,f,r⟩
 ·obtain⟨z,its,n,r,e⟩:=h.ok I.hok;exact⟨its,r,⟨_,n,e,rfl,rfl,rfl⟩,z⟩
 ·refine⟨its.toList,r,⟨o,n,I.kIn a o c,d,hd,by simpa using b⟩,?_⟩;have e:=r.length;simp only[Array.length_toList] at e;omega
theorem Inv.tuple(I:Inv X pins σ H s)(h:SqT X.K H a xs):∃its:List Value,aW xs its/\IsTup s.heap a its.toArray/\xs.length<=sizeLine:=by
 rcases h with h | ⟨o,its,n,c,d,b,f,r⟩
 ·obtain⟨z,its,r,p⟩:=h.ok I.hok;exact⟨its,r,p,z⟩
 ·refine⟨its.toList,r,⟨o,I.kIn a o c,d,n,by simpa using b⟩,?_⟩;have e:=r.length;simp only[Array.length_toList] at e;omega
theorem Inv.list_inj(I:Inv X pins σ H s)(h:SqL X.K H a xs)(h':SqL X.K H a ys):xs=ys:=by
 obtain⟨c,r,⟨o,n,e,_,_,d⟩,_⟩:=I.list h;obtain⟨b,i,⟨k,l,f,_,_,g⟩,_⟩:=I.list h';rw[e] at f;cases f;rw[d] at g
 injection g with j _
 have:c=b:=by simpa using congrArg Array.toList j
 subst this;exact r.inj i
theorem Inv.tuple_inj(I:Inv X pins σ H s)(h:SqT X.K H a xs)(h':SqT X.K H a ys):xs=ys:=by
 obtain⟨c,r,⟨o,e,_,n,d⟩,_⟩:=I.tuple h;obtain⟨b,i,⟨k,f,_,l,g⟩,_⟩:=I.tuple h';rw[e] at f;cases f;rw[d] at g
 injection g with j _
 have:c=b:=by simpa using congrArg Array.toList j
 subst this;exact r.inj i
end
abbrev Cx.wish(X:Cx)(E:Value->Shared->Prop):Cx:={X with xe:=E}
abbrev Cx.nox(X:Cx):Cx:=X.wish λ_ _=>False
theorem Cx.Ok.wish{X:Cx}(ok:X.Ok)(E:Value->Shared->Prop):(X.wish E).Ok :=
 ⟨ok.mod,ok.kind,ok.glob,ok.blt,ok.above,ok.inj,ok.has,ok.cab,ok.hd,ok.frames,ok.stk,ok.exf,ok.bs,ok.bsz,ok.noex,ok.exfs,ok.funs,ok.frf⟩
theorem Cx.Ok.unwish{X:Cx}{E:Value->Shared->Prop}(ok:(X.wish E).Ok):X.Ok :=
 ⟨ok.mod,ok.kind,ok.glob,ok.blt,ok.above,ok.inj,ok.has,ok.cab,ok.hd,ok.frames,ok.stk,ok.exf,ok.bs,ok.bsz,ok.noex,ok.exfs,ok.funs,ok.frf⟩
section
variable {X:Cx}{pins:List (Addr×Obj)}{σ:St}{H:Hp}{s:Shared}{E:Value->Shared->Prop}
theorem Inv.wish(I:Inv X pins σ H s)(E:Value->Shared->Prop):Inv (X.wish E) pins σ H s:=⟨I.ok.wish E,I.os,I.bare,I.base,I.loc,I.cell,I.free,I.freeC,I.pin,I.hok,I.len⟩
theorem Inv.unwish(I:Inv (X.wish E) pins σ H s):Inv X pins σ H s:=⟨I.ok.unwish,I.os,I.bare,I.base,I.loc,I.cell,I.free,I.freeC,I.pin,I.hok,I.len⟩
theorem SP.unwish{D:Ends}{f:Flow}{c:Shared}(h:SP (X.wish E) pins D f c):SP X pins D f c:=by
 cases f with
 |next=>obtain⟨a,b,I,q⟩:=h;exact⟨a,b,I.unwish,q⟩
 |brk=>obtain⟨a,b,I,q⟩:=h;exact⟨a,b,I.unwish,q⟩
 |cont=>obtain⟨a,b,I,q⟩:=h;exact⟨a,b,I.unwish,q⟩
 |ret u=>obtain⟨v,a,b,I,r,q⟩:=h;exact⟨v,a,b,I.unwish,r,q⟩
theorem PSs.nox{st:List Stmt}{t:TS}(h:PSs X.nox st t):PSs X st t:=λpins s σ H D I hw =>
 zN (h pins s σ H D (I.wish _) hw) (λ_ _ q=>q.unwish) λ_ _ z=>False.elim z
end
section
variable {X:Cx}{st:Stmt}{rest:List Stmt}{t u:TS}{e:Expr}{te:TE}{pos:Pos}
def Q6:TS:=λD σ H=>D.nx σ H
def Q7(t u:TS):TS:=λD σ H=>t {D with nx:=u D} σ H
theorem Q8:PSs X [] Q6:=λ_ _ σ H _ I h=>wpAny_execs_nil ⟨σ,H,I,h⟩
theorem Q9(h1:PS X st t)(h2:PSs X rest u):PSs X (st::rest) (Q7 t u):=by
 intro pins s σ H D I h;refine wpAny_execs_cons (thn (h1 pins s σ H {D with nx:=u D} I h) λf b q=>?_)
 cases f with
 |next =>
  obtain⟨a,d,c,q⟩:=q;exact h2 pins b a d D c q
 |ret v=>exact q
 |brk=>exact q
 |cont=>exact q
theorem Ra(h1:PS X st t):PSs X [st] t:=by
 intro pins s σ H D I h;refine wpAny_execs_cons (thn (h1 pins s σ H D I h) λf a q=>?_)
 cases f with
 |next=>exact wpAny_execs_nil q
 |ret v=>exact q
 |brk=>exact q
 |cont=>exact q
theorem Inv.quiet{pins:List (Addr×Obj)}{σ:St}{H:Hp}{s:Shared}(I:Inv X pins σ H s):interactive X.env=false:=by simp[interactive,I.ok.kind]
def Rb(te:TE):TS:=λD σ H=>te σ H λ_ a=>D.nx σ a
theorem t7(a:PE X e te)(hs:swapsWith e none pos.line X.env=pure false:=by rfl):PS X (.Expr e pos) (Rb te):=by
 intro pins s σ H D I h;exact wpAny_Expr_any (thn (a pins s σ H _ I h) λv s1 ⟨x,H1,I1,r1,q1⟩=>⟨σ,H1,I1,q1⟩) I.quiet hs
def Rc(te:TE):TS:=λD σ H=>te σ H D.rt
theorem wV(a:PE X e te):PS X (.Return (some e) pos) (Rc te):=by
 intro pins s σ H D I h;exact wpAny_Return_some (thn (a pins s σ H _ I h) λv s1 ⟨x,H1,I1,r1,q1⟩=>⟨x,σ,H1,I1,r1,q1⟩)
def Rf(c:TT)(t u:TS):TS:=λD σ H=>c σ H λb a=>if b=true then t D σ a else u D σ a
theorem Rg{c:Expr}{a b:List Stmt}{f:TT}(g:PT X c f)(i:PSs X a t)(hb:PSs X b u):PS X (.If c a b pos) (Rf f t u):=by
 intro pins s σ H D I h;refine wpAny_If (thn (g pins s σ H _ I h) λd s1 ⟨H1,I1,q1⟩=>?_)
 cases d with
 |true=>exact i pins s1 σ H1 D I1 q1
 |false=>exact hb pins s1 σ H1 D I1 q1
def Rh:TS:=λ_ _ _=>False
theorem Ri:PS X st Rh:=λ_ _ _ _ _ _ h=>h.elim
end
abbrev TG:=V->St->Hp->(St->Hp->Prop)->Prop
abbrev TGs:=List V->St->Hp->(St->Hp->Prop)->Prop
def PG(X:Cx)(target:Expr)(t:TG):Prop :=
 ∀(pins:List (Addr×Obj)) (s:Shared) (σ:St) (H:Hp) (v:V) (u:Value) (Q:St->Hp->Prop),Inv X pins σ H s->RelV v u->t v σ H Q ->
  wpAny (model X.prog X.w) X.A (assign target X.env u) (λ_ c=>∃a b,Inv X pins a b c/\Q a b) X.xe s
def PGs(X:Cx)(ts:List Expr)(t:TGs):Prop :=
 ∀(pins:List (Addr×Obj)) (s:Shared) (σ:St) (H:Hp) (b:List V) (c:List Value) (Q:St->Hp->Prop),Inv X pins σ H s->aW b c->t b σ H Q ->
  wpAny (model X.prog X.w) X.A (assignInOrder ((assignEach ts X.env).map (·.2)) c) (λ_ f=>∃a d,Inv X pins a d f/\Q a d) X.xe s
section
variable {X:Cx}{pos:Pos}
def qF(i:Nat):TG:=λv σ H Q=>Q (σ.set i (some v)) H
theorem Rj{i:Nat}{x:Str}(hN:X.N.Nodup)(b:X.N[i]?=some x)(a:Loc X.env.scope x)(c:X.fn x=true\/X.env.scope.names.lookup x=some .local:=by first | exact .inl rfl | exact .inr rfl | assumption):PG X (.Name x pos) (qF i):=by
 intro pins s σ H v u Q I r h;exact wpAny_assign_Name (wU I hN b a r (λf d=>⟨_,H,d,h⟩) c)
def Rk:TGs:=λa σ H Q=>a=[]/\Q σ H
def Rm(t:TG)(u:TGs):TGs:=λb σ H Q=>∃v r,b=v::r/\t v σ H λa c=>u r a c Q
theorem Rn:PGs X [] Rk:=by
 intro pins s σ H a b Q I r h;obtain⟨e,h⟩:=h;subst e;cases r;exact assignInOrder_nil ⟨σ,H,I,h⟩
theorem Ro{e:Expr}{es:List Expr}{t:TG}{u:TGs}(h1:PG X e t)(h2:PGs X es u)
  (hs:(assignEach (e::es) X.env).map (·.2)=assign e X.env::(assignEach es X.env).map (·.2):=by rfl):PGs X (e::es) (Rm t u):=by
 intro pins s σ H b d Q I r h;obtain⟨v,c,a,h⟩:=h;subst a
 cases r with
 |cons r rr =>
  rw[hs];refine assignInOrder_cons (thn (h1 pins s σ H _ _ _ I r h) λ_ s1 ⟨σ1,H1,I1,q1⟩=>?_);exact h2 pins s1 σ1 H1 _ _ Q I1 rr q1
def Rq(K:PySem.W.Frag)(n:Nat)(t:TGs):TG:=λv σ H Q=>∃a b,v=.ref a/\SqT K H a b/\b.length=n/\t b σ H Q
theorem Rr{es:List Expr}{k:Nat}{t:TGs}{n:Nat}(q:X.calm=true)(h:PGs X es t)
  (l:(assignEach es X.env).length=n:=by rfl) (d:(assignEach es X.env).findIdx? (·.1)=none:=by rfl):PG X (.Tuple es k pos) (Rq X.K n t):=by
 intro pins s σ H v u Q I r c;obtain⟨a,f,y,j,m,c⟩:=c;subst y;cases r;obtain⟨C,rv,i,E⟩:=I.tuple j
 refine assign_Tuple_tuple (I.ok.hd q) i (by simp[l,<-m,rv.length]) d λx g=>?_
 have B:Inv X pins σ H {s with heap:=x}:=I.kept (t':=s.toks) λb o e=>g b o (zp (zj e)) e
 exact h pins _ σ H f _ Q B (by simpa using rv) c
def t8(a:TE)(g:TG):TS:=λD σ H=>a σ H λx b=>g x σ b D.nx
theorem GF{i:Nat}{x:Str}{e:Expr}{a:TE}{pos':Pos}(hN:X.N.Nodup)(c:X.N[i]?=some x)(b:Loc X.env.scope x)(f:PE X e a)(hs:swapsWith e (some (.Name x pos')) pos.line X.env=pure false:=by rfl)(d:X.fn x=true\/X.env.scope.names.lookup x=some .local:=by first | exact .inl rfl | exact .inr rfl | assumption):
  PS X (.Assign [.Name x pos'] e pos) (t8 a (qF i)):=by
 intro pins s σ H D I h;refine wpAny_Assign_Name (thn (f pins s σ H _ I h) λv s1 ⟨y,H1,I1,r1,q1⟩=>?_) hs;exact wU I1 hN c b r1 (λj g=>⟨_,H1,g,q1⟩) d
end
section
variable {X:Cx}{pos:Pos}
def GJ(c:TT)(h:TS):TS:=λD σ H=>∃W:Nat->St->Hp->Prop,(∃m,W m σ H)/\∀m σ H,W m σ H ->
 c σ H λb f=>if b=true then ∃N:St->Hp->Prop,(∀a g,N a g->∃d,d<m/\W d a g)/\h {D with nx:=N,ct:=N,bk:=D.nx} σ f else D.nx σ f
theorem Rt{c:Expr}{body:List Stmt}{t:TT}{u:TS}(x:PassesOwn (model X.prog X.w) X.A X.env X.xe)(F:PT X c t)(hb:PSs X body u):PS X (.While c body [] pos) (GJ t u):=by
 intro pins s σ H D I h;obtain⟨W,⟨E,B⟩,turn⟩:=h;refine wpAny_While (codeAny_whileLoop (λn C=>∃g y,Inv X pins g y C/\W n g y) ?_ E ⟨σ,H,I,B⟩);rintro n s1 ⟨σ1,H1,I1,w1⟩;refine wpAny_passesOwn x (thn (F pins s1 σ1 H1 _ I1 (turn n σ1 H1 w1)) λb s2 ⟨H2,I2,j⟩=>?_)
 cases b with
 |true =>
  obtain⟨N,hN,j⟩:=j;rw[if_pos rfl];refine wpAny_passesOwn x (thn (hb pins s2 σ1 H2 _ I2 j) λf G i=>?_)
  cases f with
  |next =>
   obtain⟨a,d,r,l⟩:=i;obtain⟨m,q,k⟩:=hN a d l;exact⟨m,q,a,d,r,k⟩
  |cont =>
   obtain⟨a,d,r,l⟩:=i;obtain⟨m,q,k⟩:=hN a d l;exact⟨m,q,a,d,r,k⟩
  |brk=>exact i
  |ret v=>exact i
 |false =>
  rw[if_neg zf];exact wpAny_execs_nil ⟨σ1,H2,I2,j⟩
end
structure It where
 go:Nat->Hp->Prop
 yld:Nat->Hp->V->Hp->Prop
 stop:Nat->Hp->Prop
def f9(X:Cx)(pins:List (Addr×Obj))(H:Hp)(b:Addr):Prop :=
 H b=none/\b≠X.env.locals/\b∉X.fs/\(b∈X.ex\/X.s₀.heap.objs.size<=b)/\(∀x c,X.env.cells.lookup x=some c->c≠b)/\∀p∈X.pn++pins,p.1≠b
theorem Inv.fpOk{X:Cx}{pins:List (Addr×Obj)}{σ:St}{H a:Hp}{s:Shared}{b:Addr}(I:Inv X pins σ H s)(hb:s.heap.objs.size<=b)(f:a b=none):f9 X pins a b:=by
 refine⟨f,Nat.ne_of_gt (zF I.lt hb),I.nofs hb,.inr (zG I.sz hb),λx c e z=>?_,λp d z=>?_⟩
 ·obtain⟨v,q⟩:=I.cell x c e;exact absurd (zF q.lt (by rw[z];exact hb)) (zQ _)
 ·exact absurd (zF (zj (I.pin p d).1) (by rw[z];exact hb)) (zQ _)
structure Turn(P:Program)(w:World)(K:PySem.W.Frag)(tg:Expr)(J:It)(fp:List Addr)(it:Addr)(tn:Nat->Heap->Prop):Prop where
 mem:it∈fp
 obj:∀i h,tn i h->∀b∈fp,∃o,h.get? b=some o/\∀v,o.data≠.cell v
 keep:∀i h h',tn i h->(∀b∈fp,∀o,h.get? b=some o->h'.get? b=some o)->tn i h'
 item:∀(X:Cx),X.prog=P->X.w=w->X.K=K->X.calm=true->∀(i:Nat) (pins:List (Addr×Obj)) (s:Shared) (σ:St) (H:Hp) (E:Value->Shared->Prop),Inv X pins σ H s->(∀b∈fp,f9 X pins H b)->tn i s.heap->J.go i H ->
  wpAny (model P w) X.A (pyNext (.ref it)) (λr s1=>∃u,r=some u /\
   wpAny (model P w) X.A (letOwnedTupleGo tg (.ref it) u) (λ_ s2=>∃x H',Inv X pins σ H' s2/\RelV x u/\J.yld i H x H'/\tn (i+1) s2.heap/\∀b∈fp,H' b=none) E s1) E s
 done:∀(X:Cx),X.prog=P->X.w=w->X.K=K->X.calm=true->∀(i:Nat) (pins:List (Addr×Obj)) (s:Shared) (σ:St) (H:Hp) (E:Value->Shared->Prop),Inv X pins σ H s->(∀b∈fp,f9 X pins H b)->tn i s.heap->J.stop i H ->
  wpAny (model P w) X.A (pyNext (.ref it)) (λr s1=>r=none/\Inv X pins σ H s1) E s
 self:∀(A:Around) (i:Nat) (s:Shared) (Q:Value->Shared->Prop) (E:Value->Shared->Prop),tn i s.heap->Q (.ref it) s->wpAny (model P w) A (pyIter (.ref it)) Q E s
abbrev TI:=St->Hp->(It->Hp->Prop)->Prop
def PIE(X:Cx)(pins:List (Addr×Obj))(σ:St)(g:Expr)(R:It->Hp->Prop)(c:Value)(f:Shared):Prop :=
 ∃(it:Addr) (fp:List Addr) (d:Nat->Heap->Prop) (J:It) (a:Hp),c=.ref it/\Inv X pins σ a f/\Turn X.prog X.w X.K g J fp it d/\d 0 f.heap/\(∀b∈fp,f9 X pins a b)/\R J a
def PI(X:Cx)(b iter:Expr)(a:TI):Prop :=
 ∀(pins:List (Addr×Obj)) (s:Shared) (σ:St) (H:Hp) (R:It->Hp->Prop),Inv X pins σ H s->a σ H R ->
  wpAny (model X.prog X.w) X.A (eval iter X.env) (λv c=>wpAny (model X.prog X.w) X.A (pyIter v) (PIE X pins σ b R) X.xe c) X.xe s
theorem oJ{M:Model}{A:Around}{E:Value->Shared->Prop}{s:Shared}{b:Expr}{it:Addr}{u:Value}{o:Obj}{n:String}{vs:Array Value}{Q:Unit->Shared->Prop}(c:s.heap.get? it=some o)(f:o.cls=.type n)(hd:o.data=.fields vs)
  (d:["enumerate","zip","dict_itemiterator","dict_reverseitemiterator","odict_iterator","itertools.zip_longest","itertools.pairwise"].contains n=false) (a:Q () s):wpAny M A (letOwnedTupleGo b (.ref it) u) Q E s:=by
 unfold letOwnedTupleGo
 cases b<;>first
  | exact zb a
  | (cases u<;>first
    | exact zb a
    | (refine za (wpAny_load c ?_)
       rw[f,hd];show wpAny M A (if(["enumerate","zip","dict_itemiterator","dict_reverseitemiterator","odict_iterator","itertools.zip_longest","itertools.pairwise"].contains n&&vs[0]? == some (rawInt _))=true then _ else _) Q E s;rw[if_neg (by intro h;rw[d,Bool.false_and] at h;cases h)]
       exact zb a))
def Itl(K:PySem.W.Frag)(a:Addr):It :=
 ⟨λi H=>∃b x,SqL K H a b/\b[i]?=some x,λi H x c=>c=H/\∀b,SqL K H a b->b[i]?=some x,λi H=>∃b,SqL K H a b/\b.length<=i⟩
def Itt(K:PySem.W.Frag)(a:Addr):It :=
 ⟨λi H=>∃b x,SqT K H a b/\b[i]?=some x,λi H x c=>c=H/\∀b,SqT K H a b->b[i]?=some x,λi H=>∃b,SqT K H a b/\b.length<=i⟩
def Itr(lo:Int)(n:Nat):It:=⟨λi _=>i<n,λi H x a=>a=H/\x=.int (lo+i),λi _=>n<=i⟩
theorem Ru{P:Program}{w:World}{K:PySem.W.Frag}{tg:Expr}(a it:Addr):Turn P w K tg (Itl K a) [it] it (λi h=>h.IsListIter it a i) where
 mem:=by simp
 obj:=λi h st b hb=>by
  have e:b=it:=by simpa using hb
  subst e;obtain⟨o,e,c,d⟩:=st;exact⟨o,e,λv z=>by rw[d] at z;cases z⟩
 keep:=λi h h' st k=>st.at λo e=>k it (by simp) o e
 item:=by
  intro X hP hw hK hc i pins s σ H E I hf st hg;subst hP hw hK;obtain⟨xs,x,hq,hx⟩:=hg;obtain⟨its,rv,p,hz⟩:=I.list hq;obtain⟨u,hu,ru⟩:=rv.get hx;obtain⟨f0,f1,f2,f3,f4,f5⟩:=hf it (by simp)
  refine wpAny_pyNext_list_item st p.isList (x:=u) (by simpa using hu) λh' st' sb=>?_
  have I1:Inv X pins σ H {s with heap:=h'}:=I.turned (t':=s.toks) (λb o hb e=>(sb.2 b hb).trans e) f0 f1 f3 f4 f5;obtain⟨o,e,c,d⟩:=id st';exact⟨u,rfl,oJ (s:={s with heap:=h'}) e c d (by decide) ⟨x,H,I1,ru,⟨rfl,λys hy=>by rw[I.list_inj hy hq];exact hx⟩,st',λb hb=>(hf b hb).1⟩⟩
 done:=by
  intro X hP hw hK hc i pins s σ H E I hf st hg;subst hP hw hK;obtain⟨xs,hq,hx⟩:=hg;obtain⟨its,rv,p,hz⟩:=I.list hq;obtain⟨f0,f1,f2,f3,f4,f5⟩:=hf it (by simp);have hl:=rv.length
  exact wpAny_pyNext_list_end (I.ok.hd hc) st p.isList (by simp;omega) λh' eb=>⟨rfl,I.turned (t':=s.toks) (λb o hb e=>eb b o hb e) f0 f1 f3 f4 f5⟩
 self:=λ_ _ _ _ _ st h=>wpAny_pyIter_listiter st h
theorem Rv{P:Program}{w:World}{K:PySem.W.Frag}{tg:Expr}(a it:Addr):Turn P w K tg (Itt K a) [it] it (λi h=>h.IsTupleIter it a i) where
 mem:=by simp
 obj:=λi h st b hb=>by
  have e:b=it:=by simpa using hb
  subst e;obtain⟨o,e,c,d⟩:=st;exact⟨o,e,λv z=>by rw[d] at z;cases z⟩
 keep:=λi h h' st k=>st.at λo e=>k it (by simp) o e
 item:=by
  intro X hP hw hK hc i pins s σ H E I hf st hg;subst hP hw hK;obtain⟨xs,x,hq,hx⟩:=hg;obtain⟨its,rv,p,hz⟩:=I.tuple hq;obtain⟨u,hu,ru⟩:=rv.get hx;obtain⟨f0,f1,f2,f3,f4,f5⟩:=hf it (by simp)
  refine wpAny_pyNext_tuple_item st (show s.heap.IsTuple a its.toArray from p) (x:=u) (by simpa using hu) λh' st' sb=>?_
  have I1:Inv X pins σ H {s with heap:=h'}:=I.turned (t':=s.toks) (λb o hb e=>(sb.2 b hb).trans e) f0 f1 f3 f4 f5;obtain⟨o,e,c,d⟩:=id st';exact⟨u,rfl,oJ (s:={s with heap:=h'}) e c d (by decide) ⟨x,H,I1,ru,⟨rfl,λys hy=>by rw[I.tuple_inj hy hq];exact hx⟩,st',λb hb=>(hf b hb).1⟩⟩
 done:=by
  intro X hP hw hK hc i pins s σ H E I hf st hg;subst hP hw hK;obtain⟨xs,hq,hx⟩:=hg;obtain⟨its,rv,p,hz⟩:=I.tuple hq;obtain⟨f0,f1,f2,f3,f4,f5⟩:=hf it (by simp);have hl:=rv.length
  exact wpAny_pyNext_tuple_end (I.ok.hd hc) st (show s.heap.IsTuple a its.toArray from p) (by simp;omega) λh' eb=>⟨rfl,I.turned (t':=s.toks) (λb o hb e=>eb b o hb e) f0 f1 f3 f4 f5⟩
 self:=λ_ _ _ _ _ st h=>wpAny_pyIter_tupleiter st h
theorem Rw{P:Program}{w:World}{K:PySem.W.Frag}{tg:Expr}(it:Addr)(lo:Int)(n:Nat):Turn P w K tg (Itr lo n) [it] it (λi h=>IsRangeIter h it (lo+(i:Nat) * 1) ((n:Int) - (i:Nat)) 1) where
 mem:=by simp
 obj:=λi h st b hb=>by
  have e:b=it:=by simpa using hb
  subst e
  exact⟨_,st,λv z=>by
   have z':Data.fields _=Data.cell v:=z
   cases z'⟩
 keep:=λi h h' st k=>k it (by simp) _ st
 item:=by
  intro X hP hw hK hc i pins s σ H E I hf st hg;subst hP hw hK;obtain⟨f0,f1,f2,f3,f4,f5⟩:=hf it (by simp);have W:=Walks.range (prog:=X.prog) (w:=X.w) (I.ok.hd hc) it lo 1 n
  refine W.item i s _ _ hg st λv h' tk hv st' kk=>?_
  obtain⟨t,rfl⟩:=hv;have I1:Inv X pins σ H {s with heap:=h',toks:=tk}:=I.turned (λb o hb e=>kk b o (by simpa using hb) e) f0 f1 f3 f4 f5;refine⟨_,rfl,oJ (s:={s with heap:=h',toks:=tk}) (n:="range_iterator") st' rfl rfl (by decide) ⟨.int (lo+i),H,I1,⟨t,?_⟩,⟨rfl,rfl⟩,st',λb hb=>(hf b hb).1⟩⟩;rw[Int.mul_one]
 done:=by
  intro X hP hw hK hc i pins s σ H E I hf st hg;subst hP hw hK;obtain⟨f0,f1,f2,f3,f4,f5⟩:=hf it (by simp)
  exact wpAny_pyNext_range_end (I.ok.hd hc) st (by have:n<=i:=hg;omega) λh' eb=>⟨rfl,I.turned (t':=s.toks) (λb o hb e=>eb b o hb e) f0 f1 f3 f4 f5⟩
 self:=λ_ _ _ _ _ st h=>wpAny_pyIter_rangeiter st h
section
variable {X:Cx}{tg:Expr}
def Rx(K:PySem.W.Frag)(tl:TE):TI:=λσ H R=>tl σ H λx b=>∃a,x=.ref a/\(∃c,SqL K b a c)/\R (Itl K a) b
def Ry(K:PySem.W.Frag)(tl:TE):TI:=λσ H R=>tl σ H λx b=>∃a,x=.ref a/\(∃c,SqT K b a c)/\R (Itt K a) b
theorem GK{l:Expr}{tl:TE}(d:PE X l tl):PI X tg l (Rx X.K tl):=by
 intro pins s σ H R I h
 refine thn (d pins s σ H _ I h) λv s1 ⟨x,H1,I1,r1,q1⟩=>?_
 obtain⟨a,e,⟨i,c⟩,q⟩:=q1;subst e;cases r1;obtain⟨g,rv,p,j⟩:=I1.list c;refine wpAny_pyIter_list p.isList ?_;refine⟨s1.heap.objs.size,[s1.heap.objs.size],_,_,H1,rfl,I1.kept (t':=s1.toks) λb o e=>zm _ e,Ru a _,⟨_,zw _ rfl,rfl,rfl⟩,λb f=>?_,q⟩
 have e:b=s1.heap.objs.size:=by simpa using f
 subst e;exact I1.fpOk (zc _) (I1.hok.fresh (zc _))
theorem Rz{l:Expr}{tl:TE}(f:PE X l tl):PI X tg l (Ry X.K tl):=by
 intro pins s σ H R I h
 refine thn (f pins s σ H _ I h) λv s1 ⟨x,H1,I1,r1,q1⟩=>?_
 obtain⟨a,e,⟨i,d⟩,q⟩:=q1;subst e;cases r1;obtain⟨c,rv,p,j⟩:=I1.tuple d;refine wpAny_pyIter_tuple (show s1.heap.IsTuple a c.toArray from p) ?_;refine⟨s1.heap.objs.size,[s1.heap.objs.size],_,_,H1,rfl,I1.kept (t':=s1.toks) λb o e=>zm _ e,Rv a _,⟨_,zw _ rfl,rfl,rfl⟩,λb g=>?_,q⟩
 have e:b=s1.heap.objs.size:=by simpa using g
 subst e;exact I1.fpOk (zc _) (I1.hok.fresh (zc _))
theorem RB{pins:List (Addr×Obj)}{σ:St}{H:Hp}{s:Shared}{R:It->Hp->Prop}{E:Value->Shared->Prop}{lo a:Int}{t u v:Tok}{tk:Nat}(I:Inv X pins σ H s)(h1:-(2 ^ 62)<=lo)(h2:lo<2 ^ 62)(h3:-(2 ^ 62)<=a)(h4:a<2 ^ 62)
  (q:R (Itr lo (a - lo).toNat) H):wpAny (model X.prog X.w) X.A (pyIter (.ref s.heap.objs.size)) (PIE X pins σ tg R) E {s with heap:=s.heap.push {cls:=.type "range",data:=.fields #[.int lo t,.int a u,.int 1 v]},toks:=tk}:=by
 refine wpAny_pyIter_range (IsRange.new ..) (small_one h1 h2 h3 h4) ?_
 have c:Inv X pins σ H {s with heap:=s.heap.push {cls:=.type "range",data:=.fields #[.int lo t,.int a u,.int 1 v]},toks:=tk}:=I.kept λb o e=>zm _ e
 refine⟨(s.heap.push {cls:=.type "range",data:=.fields #[.int lo t,.int a u,.int 1 v]}).objs.size,[(s.heap.push {cls:=.type "range",data:=.fields #[.int lo t,.int a u,.int 1 v]}).objs.size],_,_,H,rfl,
  c.kept (t':=tk) λb o e=>zm _ e,Rw _ lo (a - lo).toNat,?_,λb d=>?_,q⟩
 ·have g:lo+((0:Nat):Int) * 1=lo:=by simp
  have f:(((a - lo).toNat:Nat):Int) - ((0:Nat):Int)=Builtin.Range.rangeSize lo a 1:=by rw[rangeSize_one];split<;>omega
  show IsRangeIter _ _ (lo+((0:Nat):Int) * 1) ((((a - lo).toNat:Nat):Int) - ((0:Nat):Int)) 1;rw[g,f];exact zw _ rfl
 ·have e:b=(s.heap.push {cls:=.type "range",data:=.fields #[.int lo t,.int a u,.int 1 v]}).objs.size:=by simpa using d
  subst e;exact c.fpOk (zc _) (c.hok.fresh (zc _))
def RC(b:TA):TI:=λσ H R=>b σ H λa c=>∃j:Int,a=[.int j]/\-(2 ^ 62)<=j/\j<2 ^ 62/\R (Itr 0 j.toNat) c
theorem RD{a:Expr}{d:TA}{p b:Pos}(i:Gl X "range")(g:X.mg "range" = none)(k:PA X [a] d)(hs:starEach [a] X.env=[(false,eval a X.env)]:=by rfl):PI X tg (.Call (.Name "range" p) [a] [] b) (RC d):=by
 intro pins s σ H R I h;refine Call_ (j6 I i g boot_range (PyProof.Rows.callWith_type1 (thn (k b pins s σ H _ I h) λus s1 ⟨vs,H1,I1,r1,c⟩=>?_) hs rfl));obtain⟨j,e,c,f,q⟩:=c;subst e
 cases r1 with
 |cons r rr =>
  cases rr;obtain⟨t,rfl⟩:=r;exact call_range_1 (RB I1 (by omega) (by omega) c f (by simpa using q))
def GP(f:TI)(g:TG)(h:TS):TS:=λD σ H=>f σ H λJ k=>∃W:Nat->Nat->St->Hp->Prop,(∃m,W 0 m σ k)/\∀i m σ H,W i m σ H ->
 (J.stop i H/\D.nx σ H)\/(J.go i H/\∃N:St->Hp->Prop,(∀b a,N b a->∃d,d<m/\W (i+1) d b a)/\∀x a,J.yld i H x a->g x σ a λc j=>h {D with nx:=N,ct:=N,bk:=D.nx} c j)
def qG(fp:List Addr)(h:Heap):List (Addr×Obj):=fp.filterMap λb=>(h.get? b).map λo=>(b,o)
theorem uc{fp:List Addr}{h:Heap}{b:Addr}{o:Obj}(hb:b∈fp)(e:h.get? b=some o):(b,o)∈qG fp h:=List.mem_filterMap.mpr ⟨b,hb,by rw[e];rfl⟩
theorem RG{fp:List Addr}{h:Heap}{p:Addr×Obj}(a:p∈qG fp h):p.1∈fp/\h.get? p.1=some p.2:=by
 obtain⟨b,c,e⟩:=List.mem_filterMap.mp a
 cases q:h.get? b with
 |none=>rw[q] at e;cases e
 |some o =>
  rw[q] at e;have e':(b,o)=p:=zD e;subst e';exact⟨c,q⟩
theorem Inv.pinned{pins:List (Addr×Obj)}{σ:St}{H:Hp}{s:Shared}{fp:List Addr}(I:Inv X pins σ H s)(h:∀b∈fp,f9 X pins H b)(g:∀b∈fp,∃o,s.heap.get? b=some o/\∀v,o.data≠.cell v):Inv X (pins++qG fp s.heap) σ H s :=
 I.pins_of λp f=>(zE.mp f).elim (λz=>I.pin p (zR _ z)) λz=>by
  obtain⟨a,e⟩:=RG z;obtain⟨f0,j,i,_⟩:=h p.1 a;obtain⟨o,c,d⟩:=g p.1 a;rw[e] at c;cases c;exact⟨e,f0,j,i,d⟩
theorem Inv.unpinned{pins pl:List (Addr×Obj)}{σ:St}{H:Hp}{s:Shared}(I:Inv X (pins++pl) σ H s):Inv X pins σ H s:=I.pins_of λp a=>I.pin p (zR _ (List.mem_append_left _ a))
theorem RJ{iter:Expr}{body:List Stmt}{R:TI}{g:TG}{Y:TS}{Q:Pos}(C:PassesOwn (model X.prog X.w) X.A X.env X.xe)(hc:X.calm=true)(hi:PI X tg iter R)(hg:PG X tg g)(hb:PSs X body Y)
  (hs:∀x,foldedSetIterable iter X.env x=pure x:=by intro _;rfl):PS X (.For tg iter body [] Q) (GP R g Y):=by
 intro pins s σ H D I h;refine wpAny_For (thn (hi pins s σ H _ I h) λv s1 h1=>thn h1 λitv s2 h2=>?_) hs;obtain⟨it,fp,U,J,H2,e,I2,T,P,f2,W,⟨m0,w0⟩,turn⟩:=h2;subst e
 have q:∀{t:Hp},(∀b∈fp,t b=none)->∀b∈fp,f9 X pins t b:=λhn b hb=>⟨hn b hb,(f2 b hb).2⟩
 refine codeAny_forLoop_any (λn s'=>∃i l t,Inv X pins l t s'/\U i s'.heap/\(∀b∈fp,t b=none)/\W i n l t) ?_ m0 ⟨0,σ,H2,I2,P,λb hb=>(f2 b hb).1,w0⟩;rintro n Z ⟨i,k,G,I3,E,F,w3⟩
 rcases turn i n k G w3 with⟨stop,qn⟩ | ⟨go,N,hN,step⟩
 ·refine wpAny_passesOwn C (thn (T.done X rfl rfl rfl hc i pins Z k G X.xe I3 (q F) E stop) λr s4 ⟨O,I4⟩=>?_);subst O;exact wpAny_execs_nil ⟨k,G,I4,qn⟩
 ·refine wpAny_passesOwn C (thn (T.item X rfl rfl rfl hc i pins Z k G X.xe I3 (q F) E go) λr s4 ⟨u,O,h4⟩=>?_);subst O;refine wpAny_passesOwn C (thn h4 λ_ s5 ⟨x,H5,I5,r5,y5,st5,fr5⟩=>?_);have I5':=I5.pinned (q fr5) (T.obj _ _ st5);refine wpAny_passesOwn C (thn (hg _ s5 k H5 x u _ I5' r5 (step x H5 y5)) λ_ s6 ⟨σ6,H6,I6,q6⟩=>?_);refine wpAny_passesOwn C (thn (hb _ s6 σ6 H6 _ I6 q6) λf L y=>?_)
  have again:∀{a:St}{j:Hp},Inv X (pins++qG fp s5.heap) a j L->N a j->∃m,m<n/\∃i l t,Inv X pins l t L/\U i L.heap/\(∀b∈fp,t b=none)/\W i m l t:=λ{a j} c B=>by
   obtain⟨m',hm,w7⟩:=hN a j B;refine⟨m',hm,i+1,a,j,c.unpinned,T.keep _ _ _ st5 λb hb o e=>(c.pin (b,o) (zR _ (zR _ (uc hb e)))).1,λb hb=>?_,w7⟩;obtain⟨o,e,d⟩:=T.obj _ _ st5 b hb;exact(c.pin (b,o) (zR _ (zR _ (uc hb e)))).2.1
  cases f with
  |next=>obtain⟨a,j,c,B⟩:=y;exact again c B
  |cont=>obtain⟨a,j,c,B⟩:=y;exact again c B
  |brk=>obtain⟨a,j,c,y⟩:=y;exact⟨a,j,c.unpinned,y⟩
  |ret v=>obtain⟨x7,a,j,c,r7,y⟩:=y;exact⟨x7,a,j,c.unpinned,r7,y⟩
end
abbrev R2:=V->V->Hp->VK->Prop
def OpR(X:Cx)(f:Value->Value->Sem Value)(r:R2):Prop :=
 ∀(pins:List (Addr×Obj)) (s:Shared) (σ:St) (H:Hp) (x y:V) (v u:Value) (Q:VK),Inv X pins σ H s->RelV x v->RelV y u->r x y H Q ->
  wpAny (model X.prog X.w) X.A (f v u) (EP X pins σ Q) X.xe s
def UnR(X:Cx)(f:Value->Sem Value)(r:V->Hp->VK->Prop):Prop :=
 ∀(pins:List (Addr×Obj)) (s:Shared) (σ:St) (H:Hp) (x:V) (v:Value) (Q:VK),Inv X pins σ H s->RelV x v->r x H Q ->
  wpAny (model X.prog X.w) X.A (f v) (EP X pins σ Q) X.xe s
def j7(X:Cx)(f:Value)(r:List V->Hp->VK->Prop):Prop :=
 ∀(pins:List (Addr×Obj)) (s:Shared) (σ:St) (H:Hp) (a:List V) (b:List Value) (Q:VK),Inv X pins σ H s->aW a b->r a H Q ->
  wpAny (model X.prog X.w) X.A (call f b) (EP X pins σ Q) X.xe s
def RK(X:Cx)(r:V->Hp->(Bool->Hp->Prop)->Prop):Prop :=
 ∀(pins:List (Addr×Obj)) (s:Shared) (σ:St) (H:Hp) (x:V) (v:Value) (Q:Bool->Hp->Prop),Inv X pins σ H s->RelV x v->r x H Q ->
  wpAny (model X.prog X.w) X.A (truthy v) (TP X pins σ Q) X.xe s
def tOp(r:R2)(b a:TE):TE:=λσ H Q=>b σ H λx d=>a σ d λy c=>r x y c Q
def tUn(r:V->Hp->VK->Prop)(a:TE):TE:=λσ H Q=>a σ H λx b=>r x b Q
def rI(C:Int->Int->Prop)(g:Int->Int->V):R2:=λx y H Q=>∃i j,x=.int i/\y=.int j/\C i j/\Q (g i j) H
def rI0(g:Int->Int->V):R2:=λx y H Q=>∃i j,x=.int i/\y=.int j/\Q (g i j) H
def rU(g:Int->V):V->Hp->VK->Prop:=λx H Q=>∃i,x=.int i/\Q (g i) H
section
variable {X:Cx}{a b c:Expr}{ta tb tc:TE}{pos:Pos}
theorem wW(m:PE X a ta)(hb:PE X b tb){pins:List (Addr×Obj)}{s:Shared}{σ:St}{H:Hp}{R:V->V->Hp->Prop}(I:Inv X pins σ H s)
  (h:ta σ H λx k=>tb σ k λy d=>R x y d) {Q:Value->Shared->Prop}{f:Value->Value->Sem Value}
  (l:∀v u j x y d,Inv X pins σ d j->RelV x v->RelV y u->R x y d->wpAny (model X.prog X.w) X.A (f v u) Q X.xe j):
  wpAny (model X.prog X.w) X.A (eval a X.env) (λv i=>wpAny (model X.prog X.w) X.A (eval b X.env) (λu g=>wpAny (model X.prog X.w) X.A (f v u) Q X.xe g) X.xe i) X.xe s:=by
 refine thn (m pins s σ H _ I h) λv s1 ⟨x,k,I1,r1,q1⟩=>?_
 refine thn (hb pins s1 σ k _ I1 q1) λu j ⟨y,d,I2,r2,q2⟩=>?_
 exact l v u j x y d I2 r1 r2 q2
theorem RL{op:Operator}{r:R2}(i:OpR X (binaryOp op) r)(j:PE X a ta)(hb:PE X b tb):PE X (.BinOp a op b pos) (tOp r ta tb):=by
 intro pins s σ H Q I h;exact wpAny_BinOp (wW j hb I h λv u d x y l k g f q=>i pins d σ l x y v u Q k g f q)
theorem RM{op:UnaryOp}{r:V->Hp->VK->Prop}(d:UnR X (unaryOp op) r)(f:PE X a ta):PE X (.UnaryOp op a pos) (tUn r ta):=by
 intro pins s σ H Q I h;exact UnaryOp_ (thn (f pins s σ H _ I h) λv s1 ⟨x,H1,I1,r1,q1⟩=>d pins s1 σ H1 x v Q I1 r1 q1)
theorem opI{f:Value->Value->Sem Value}{C:Int->Int->Prop}{g:Int->Int->Int}
  (rule:∀(i j:Int) (t u:Tok) (s:Shared) (Q:Value->Shared->Prop) (E:Value->Shared->Prop),C i j->Q (.int (g i j) s.toks) {s with toks:=s.toks+1}->wpAny (model X.prog X.w) X.A (f (.int i t) (.int j u)) Q E s):
  OpR X f (rI C λi j=>.int (g i j)):=by
 intro pins s σ H x y v u Q I l k h;obtain⟨i,j,rfl,rfl,m,q⟩:=h;obtain⟨t,rfl⟩:=l;obtain⟨d,rfl⟩:=k;exact rule i j t d s _ _ m ⟨.int (g i j),H,I.tok _,⟨_,rfl⟩,q⟩
theorem GQ{f:Value->Value->Sem Value}{g:Int->Int->Int}
  (rule:∀(i j:Int) (t u:Tok) (s:Shared) (Q:Value->Shared->Prop) (E:Value->Shared->Prop),Q (.int (g i j) s.toks) {s with toks:=s.toks+1}->wpAny (model X.prog X.w) X.A (f (.int i t) (.int j u)) Q E s):
  OpR X f (rI0 λi j=>.int (g i j)):=by
 intro pins s σ H x y v u Q I l k h;obtain⟨i,j,rfl,rfl,q⟩:=h;obtain⟨t,rfl⟩:=l;obtain⟨d,rfl⟩:=k;exact rule i j t d s _ _ ⟨.int (g i j),H,I.tok _,⟨_,rfl⟩,q⟩
theorem wX{f:Value->Value->Sem Value}{g:Int->Int->Bool}
  (rule:∀(i j:Int) (t u:Tok) (s:Shared) (Q:Value->Shared->Prop) (E:Value->Shared->Prop),Q (.bool (g i j)) s->wpAny (model X.prog X.w) X.A (f (.int i t) (.int j u)) Q E s):
  OpR X f (rI0 λi j=>.bl (g i j)):=by
 intro pins s σ H x y v u Q I l k h;obtain⟨i,j,rfl,rfl,q⟩:=h;obtain⟨t,rfl⟩:=l;obtain⟨d,rfl⟩:=k;exact rule i j t d s _ _ ⟨.bl (g i j),H,I,rfl,q⟩
def RN(i j:Int):Prop:=0<j/\j<1073741824
def RP(i j:Int):Prop:=0<=j/\j<=1000000/\i.natAbs<2 ^ 64
def wY(i j:Int):Prop:=(-(2 ^ 64)<i/\i<2 ^ 64)\/(-(2 ^ 64)<j/\j<2 ^ 64)
theorem wY.ok{i j:Int}(h:wY i j):IntMulOk i j:=by
 rcases h with⟨h1,h2⟩ | ⟨h1,h2⟩
 ·exact .of_left (intBits_le_64 h1 h2)
 ·exact .of_right (intBits_le_64 h1 h2)
theorem RQ:OpR X (binaryOp .Add) (rI0 λi j=>.int (i+j)):=GQ λ_ _ _ _ _ _ _ q=>add_int q
theorem RT:OpR X (binaryOp .Sub) (rI0 λi j=>.int (i - j)):=GQ λ_ _ _ _ _ _ _ q=>sub_int q
theorem RV:OpR X (binaryOp .Mult) (rI wY λi j=>.int (i * j)):=opI λ_ _ _ _ _ _ _ d q=>mul_int q d.ok
theorem RW:OpR X (binaryOp .FloorDiv) (rI RN λi j=>.int (i / j)):=opI λi j _ _ _ _ _ d q=>by
 have h1:(0:Int)<j:=d.1;have h2:j<1073741824:=d.2;exact floordiv_int (by omega) (by rw[Int.fdiv_eq_ediv_of_nonneg i (by omega)];exact q) (.inl (PyProof.noPylong_small (by omega)))
theorem RX:OpR X (binaryOp .Mod) (rI (λ_ j=>0<j) λi j=>.int (i % j)):=opI λi j _ _ _ _ _ d q=>by
 have h1:(0:Int)<j:=d;exact mod_int' (by omega) (by rw[Int.fmod_eq_emod_of_nonneg i (by omega)];exact q)
theorem RZ:OpR X (binaryOp .Pow) (rI RP λi j=>.int (i ^ j.toNat)):=opI λ_ _ _ _ _ _ _ d q=>pow_int_small d.1 d.2.1 d.2.2 q
theorem unI{f:Value->Sem Value}{g:Int->Int}
  (rule:∀(i:Int) (t:Tok) (s:Shared) (Q:Value->Shared->Prop) (E:Value->Shared->Prop),Q (.int (g i) s.toks) {s with toks:=s.toks+1}->wpAny (model X.prog X.w) X.A (f (.int i t)) Q E s):
  UnR X f (rU λi=>.int (g i)):=by
 intro pins s σ H x v Q I d h;obtain⟨i,rfl,q⟩:=h;obtain⟨t,rfl⟩:=d;exact rule i t s _ _ ⟨.int (g i),H,I.tok _,⟨_,rfl⟩,q⟩
theorem R0:UnR X (unaryOp .USub) (rU λi=>.int (-i)):=unI λ_ _ _ _ _ q=>neg_int q
theorem R1:OpR X (binaryOp .Add) (λx y H Q=>∃i k,x=.int i/\y=.bl k/\Q (.int (i+b2i k)) H):=by
 intro pins s σ H x y v u Q I f d h;obtain⟨i,k,rfl,rfl,q⟩:=h;obtain⟨t,rfl⟩:=f;cases d;exact add_int_bool ⟨.int (i+b2i k),H,I.tok _,⟨_,rfl⟩,q⟩
end
def GR:V->V->Bool
 | .non,.non=>true | .non,.int _=>true | .int _,.non=>true | .non,.bl _=>true | .bl _,.non=>true | .non,.str _=>true | .str _,.non=>true
 | .int _,.int _=>true | .bl _,.bl _=>true | .str _,.str _=>true | .byt _,.byt _=>true
 | .int _,.str _=>true | .str _,.int _=>true | .bl _,.str _=>true | .str _,.bl _=>true
 | _,_=>false
def rEq:R2:=λx y H Q=>GR x y=true/\Q (.bl (decide (x=y))) H
def rNe:R2:=λx y H Q=>GR x y=true/\Q (.bl (!decide (x=y))) H
theorem GX{i j:Int}:decide (V.int i=V.int j)=(i == j):=by
 rw[Bool.eq_iff_iff];simp
theorem GZ{i j:Bool}:decide (V.bl i=V.bl j)=(i == j):=by
 rw[Bool.eq_iff_iff];simp
theorem G3{i j:Str}:decide (V.str i=V.str j)=(i == j):=by
 rw[Bool.eq_iff_iff];simp
theorem G4{i j:Array UInt8}:decide (V.byt i=V.byt j)=(i.toList == j.toList):=by
 rw[Bool.eq_iff_iff];cases i;cases j;simp
section
variable {X:Cx}{a b c:Expr}{ta tb tc:TE}{pos:Pos}
theorem cM{pins:List (Addr×Obj)}{σ:St}{H:Hp}{s:Shared}{Q:VK}{k d:Bool}(I:Inv X pins σ H s)(q:Q (.bl k) H)(e:k=d):EP X pins σ Q (.bool d) s:=by
 subst e;exact⟨.bl k,H,I,rfl,q⟩
theorem wZ:OpR X (compareOp .Eq) rEq:=by
 intro pins s σ H x y v u Q I k d h;obtain⟨g,q⟩:=h
 cases x with
 |non =>
  cases k
  cases y with
  |non=>cases d;exact PySem.EqNone.eq_none_none (cM I q (by simp))
  |bl j=>cases d;exact PySem.EqNone.eq_none_bool (cM I q (by simp))
  |int j=>obtain⟨f,rfl⟩:=d;exact PySem.EqNone.eq_none_int (cM I q (by simp))
  |str j=>obtain⟨f,rfl⟩:=d;exact PySem.EqNone.eq_none_str (cM I q (by simp))
  | _=>exact absurd (show false=true from g) zf
 |bl i =>
  cases k
  cases y with
  |non=>cases d;exact PySem.EqNone.eq_bool_none (cM I q (by simp))
  |bl j=>cases d;exact eq_bool (cM I q GZ)
  |str j=>obtain⟨f,rfl⟩:=d;exact PySem.EqMixed.eq_bool_str (cM I q (by simp))
  | _=>exact absurd (show false=true from g) zf
 |int i =>
  obtain⟨t,rfl⟩:=k
  cases y with
  |non=>cases d;exact PySem.EqNone.eq_int_none (cM I q (by simp))
  |int j=>obtain⟨f,rfl⟩:=d;exact eq_int (cM I q GX)
  |str j=>obtain⟨f,rfl⟩:=d;exact PySem.EqMixed.eq_int_str (cM I q (by simp))
  | _=>exact absurd (show false=true from g) zf
 |str i =>
  obtain⟨t,rfl⟩:=k
  cases y with
  |non=>cases d;exact PySem.EqNone.eq_str_none (cM I q (by simp))
  |bl j=>cases d;exact PySem.EqMixed.eq_str_bool (cM I q (by simp))
  |int j=>obtain⟨f,rfl⟩:=d;exact PySem.EqMixed.eq_str_int (cM I q (by simp))
  |str j=>obtain⟨f,rfl⟩:=d;exact eq_str (cM I q G3)
  | _=>exact absurd (show false=true from g) zf
 |byt i =>
  obtain⟨t,rfl⟩:=k
  cases y with
  |byt j=>obtain⟨f,rfl⟩:=d;exact PySem.W.eq_bytes (cM I q G4)
  | _=>exact absurd (show false=true from g) zf
 | _=>cases y<;>exact absurd (show false=true from g) zf
theorem w5:OpR X (compareOp .NotEq) rNe:=by
 intro pins s σ H x y v u Q I k d h;obtain⟨g,q⟩:=h
 cases x with
 |non =>
  cases k
  cases y with
  |non=>cases d;exact PySem.EqNone.ne_none_none (cM I q (by simp))
  |bl j=>cases d;exact PySem.EqNone.ne_none_bool (cM I q (by simp))
  |int j=>obtain⟨f,rfl⟩:=d;exact PySem.EqNone.ne_none_int (cM I q (by simp))
  |str j=>obtain⟨f,rfl⟩:=d;exact PySem.EqNone.ne_none_str (cM I q (by simp))
  | _=>exact absurd (show false=true from g) zf
 |bl i =>
  cases k
  cases y with
  |non=>cases d;exact PySem.EqNone.ne_bool_none (cM I q (by simp))
  |bl j=>cases d;exact ne_bool (cM I q (congrArg not GZ))
  |str j=>obtain⟨f,rfl⟩:=d;exact PySem.EqMixed.ne_bool_str (cM I q (by simp))
  | _=>exact absurd (show false=true from g) zf
 |int i =>
  obtain⟨t,rfl⟩:=k
  cases y with
  |non=>cases d;exact PySem.EqNone.ne_int_none (cM I q (by simp))
  |int j=>obtain⟨f,rfl⟩:=d;exact ne_int (cM I q (congrArg not GX))
  |str j=>obtain⟨f,rfl⟩:=d;exact PySem.EqMixed.ne_int_str (cM I q (by simp))
  | _=>exact absurd (show false=true from g) zf
 |str i =>
  obtain⟨t,rfl⟩:=k
  cases y with
  |non=>cases d;exact PySem.EqNone.ne_str_none (cM I q (by simp))
  |bl j=>cases d;exact PySem.EqMixed.ne_str_bool (cM I q (by simp))
  |int j=>obtain⟨f,rfl⟩:=d;exact PySem.EqMixed.ne_str_int (cM I q (by simp))
  |str j=>obtain⟨f,rfl⟩:=d;exact ne_str (cM I q (congrArg not G3))
  | _=>exact absurd (show false=true from g) zf
 |byt i =>
  obtain⟨t,rfl⟩:=k
  cases y with
  |byt j=>obtain⟨f,rfl⟩:=d;exact PySem.W.ne_bytes (cM I q (congrArg not G4))
  | _=>exact absurd (show false=true from g) zf
 | _=>cases y<;>exact absurd (show false=true from g) zf
theorem R3:OpR X (compareOp .Lt) (rI0 λi j=>.bl (decide (i<j))):=wX λ_ _ _ _ _ _ _ q=>lt_int q
theorem R4:OpR X (compareOp .LtE) (rI0 λi j=>.bl (decide (i<=j))):=wX λ_ _ _ _ _ _ _ q=>le_int q
theorem R5:OpR X (compareOp .Gt) (rI0 λi j=>.bl (decide (j<i))):=wX λ_ _ _ _ _ _ _ q=>gt_int q
theorem R6:OpR X (compareOp .In) (λx y H Q=>∃i j,x=.str i/\y=.str j/\Q (.bl (!(Builtin.Str.occurrences j i 0 j.length 1).isEmpty)) H):=by
 intro pins s σ H x y v u Q I f d h;obtain⟨i,j,rfl,rfl,q⟩:=h;obtain⟨t,rfl⟩:=f;obtain⟨g,rfl⟩:=d;exact in_str (cM I q rfl)
theorem aZ(b:Expr){op:CmpOp}(h:op≠.In:=by decide)(h2:op≠.NotIn:=by decide):behindInMarks op b=false:=by
 have f:(op == CmpOp.In)=false:=by cases op<;>first | rfl | exact absurd rfl h
 have d:(op == CmpOp.NotIn)=false:=by cases op<;>first | rfl | exact absurd rfl h2
 cases b<;>simp[behindInMarks,f,d]
theorem R7{op:CmpOp}{r:R2}(i:OpR X (compareOp op) r)(k:PE X a ta)(hb:PE X b tb)(j:behindInMarks op b=false):PE X (.Compare a [op] [b] pos) (tOp r ta tb):=by
 intro pins s σ H Q I h;exact wpAny_Compare1 (wW k hb I h λv u d x y m l g f q=>i pins d σ m x y v u Q l g f q) j
def w6(t:TE):TT:=λσ H Q=>t σ H λx d=>∃k,x=.bl k/\Q k d
theorem R8{op:CmpOp}{r:R2}(d:OpR X (compareOp op) r)(g:PE X a ta)(hb:PE X b tb)(f:behindInMarks op b=false):PT X (.Compare a [op] [b] pos) (w6 (tOp r ta tb)):=by
 intro pins s σ H Q I h
 refine wpAny_isTrue_Compare1 (thn (g pins s σ H _ I h) λv s1 ⟨x,H1,I1,r1,q1⟩=>thn (hb pins s1 σ H1 _ I1 q1) λu s2 ⟨y,H2,I2,r2,q2⟩ =>
  thn (d pins s2 σ H2 x y v u _ I2 r1 r2 q2) λc s3 ⟨z,H3,I3,r3,k,e,q3⟩=>?_) f
 subst e;cases r3;exact wpAny_truthy_bool ⟨H3,I3,q3⟩
def G5(r g:R2)(ta tb tc:TE):TE:=λσ H Q=>ta σ H λx j=>tb σ j λy i=>r x y i λz d=>∃k,z=.bl k /\
 (if k=true then tc σ d λf h=>g y f h Q else Q (.bl false) d)
theorem R9{op f:CmpOp}{r i:R2}(j:OpR X (compareOp op) r)(g:OpR X (compareOp f) i)(n:PE X a ta)(hb:PE X b tb)(m:PE X c tc)
  (l:lastMarks [op,f] [b,c]=false:=by with_unfolding_all rfl):PE X (.Compare a [op,f] [b,c] pos) (G5 r i ta tb tc):=by
 intro pins s σ H Q I h
 refine Compare_chain (thn (n pins s σ H _ I h) λv s1 ⟨x,H1,I1,r1,q1⟩=>chain_link (thn (hb pins s1 σ H1 _ I1 q1) λu s2 ⟨y,H2,I2,r2,q2⟩ =>
  thn (j pins s2 σ H2 x y v u _ I2 r1 r2 q2) λd s3 ⟨z,H3,I3,r3,k,e,q3⟩=>?_)) l
 subst e;cases r3;refine wpAny_truthy_bool ?_
 cases k with
 |false=>exact ite_ff ⟨.bl false,H3,I3,rfl,q3⟩
 |true=>exact ite_tt (chain_last (thn (m pins s3 σ H3 _ I3 q3) λw' s4 ⟨z',H4,I4,r4,q4⟩=>g pins s4 σ H4 y z' u w' Q I4 r2 r4 q4))
def xf(K:PySem.W.Frag)(x:V)(H:Hp)(k:Bool):Prop :=
 match x with
 | .non=>k=false
 | .bl b=>k=b
 | .int i=>k=(i != 0)
 | .str y=>y.length<=sizeLine/\k=((y.length:Int) != 0)
 | .byt y=>y.size<=sizeLine/\k=((y.size:Int) != 0)
 | .ref p=>(∃d,SqL K H p d/\k = !d.isEmpty)\/(∃d,SqT K H p d/\k = !d.isEmpty)\/∃kvs,H p=some (.dK kvs)/\k = !kvs.isEmpty
 | _=>False
theorem Sd{κ:Type}{kvs:List (κ×V)}{vs:List (κ×Value)}(r:KV kvs vs):(!vs.isEmpty) = !kvs.isEmpty:=by
 cases r<;>rfl
theorem G6{xs:List V}{its:List Value}(r:aW xs its):(!its.toArray.isEmpty) = !xs.isEmpty:=by
 cases r<;>simp
theorem qH:(sizeLine:Nat)<2 ^ 63:=by rw[sizeLine_eq];decide
theorem Sg:RK X (λx H Q=>∃k,xf X.K x H k/\Q k H):=by
 intro pins s σ H x v Q I g h;obtain⟨k,e,q⟩:=h;have G:=qH;have F:sizeLine=16777216:=sizeLine_eq
 cases x with
 |non =>
  cases g;have d:k=false:=e;subst d;exact truthy_none ⟨H,I,q⟩
 |bl b =>
  cases g;have d:k=b:=e;subst d;exact wpAny_truthy_bool ⟨H,I,q⟩
 |int i =>
  obtain⟨t,rfl⟩:=g;have d:k=(i != 0):=e;subst d;exact PySem.P.truthy_int ⟨H,I,q⟩
 |str y =>
  obtain⟨t,rfl⟩:=g;obtain⟨C,d⟩:y.length<=sizeLine/\k=((y.length:Int) != 0):=e;subst d;exact PySem.P.truthy_str (by omega) ⟨H,I.tok _,q⟩
 |byt y =>
  obtain⟨t,rfl⟩:=g;obtain⟨C,d⟩:y.size<=sizeLine/\k=((y.size:Int) != 0):=e;subst d;exact PySem.W.truthy_bytes (by omega) ⟨H,I.tok _,q⟩
 |ref p =>
  cases g;have d:(∃f,SqL X.K H p f/\k = !f.isEmpty)\/(∃f,SqT X.K H p f/\k = !f.isEmpty)\/∃kvs,H p=some (.dK kvs)/\k = !kvs.isEmpty:=e
  rcases d with⟨f,j,d⟩ | ⟨f,j,d⟩ | ⟨kvs,j,d⟩
  ·subst d;obtain⟨u,r,n,B⟩:=I.list j;have hlen:=r.length;exact wpAny_truthy_list n.isList (by simp only[zy];omega) ⟨H,I.tok _,by rw[G6 r];exact q⟩
  ·subst d;obtain⟨u,r,n,B⟩:=I.tuple j;have hlen:=r.length;exact truthy_tuple n (by simp only[zy];omega) ⟨H,I.tok _,by rw[G6 r];exact q⟩
  ·subst d;obtain⟨B,E,l,r,m⟩:kvs.length<=sizeLine/\(p == sysModules)=false/\∃l,KV kvs l/\s.heap.DictOf (d7 X.prog X.w) p l:=I.hok p _ j;have hlen:kvs.length=l.length:=Paired.length r;exact wpAny_truthy_dict E m (by omega) ⟨H,I.tok _,by rw[Sd r];exact q⟩
 | _=>exact(show False from e).elim
theorem Sh(g:PE X a ta)(f:∀whole,isTrue a X.env whole=(do let v <-whole;standAt a.pos;holding [v] (truthy v))):
  PT X a (λσ H Q=>ta σ H λx d=>∃k,xf X.K x d k/\Q k d):=by
 intro pins s σ H Q I h;exact isTrue_plain (thn (g pins s σ H _ I h) λv s1 ⟨x,H1,I1,r1,q1⟩=>Sg pins s1 σ H1 x v Q I1 r1 q1) (f _)
theorem Sq:OpR X (binaryOp .Add) (λx y H Q=>∃i j,x=.str i/\y=.str j/\i.length+j.length<=sizeLine/\Q (.str (i++j)) H):=by
 intro pins s σ H x y v u Q I g f h;obtain⟨i,j,rfl,rfl,k,q⟩:=h;obtain⟨t,rfl⟩:=g;obtain⟨d,rfl⟩:=f;exact add_str (λd tk=>⟨.str (i++j),H,I.tok _,⟨_,rfl⟩,q⟩) k
theorem vals1{x:V}{us:List Value}(r:aW [x] us):∃u,us=[u]/\RelV x u:=by
 cases r with
 |cons f d=>cases d;exact⟨_,rfl,f⟩
theorem vals2{x y:V}{us:List Value}(r:aW [x,y] us):∃u d,us=[u,d]/\RelV x u/\RelV y d:=by
 cases r with
 |cons r1 r2 =>
  cases r2 with
  |cons g f=>cases f;exact⟨_,_,rfl,r1,g⟩
theorem G7:j7 X (.type "int") (λxs H Q=>(∃i,xs=[.int i]/\Q (.int i) H)\/∃k,xs=[.bl k]/\Q (.int (if k then 1 else 0)) H):=by
 intro pins s σ H xs f Q I r h
 rcases h with⟨i,rfl,q⟩ | ⟨k,rfl,q⟩
 ·obtain⟨u,rfl,t,rfl⟩:=vals1 r;exact call_int_int ⟨.int i,H,I,⟨_,rfl⟩,q⟩
 ·obtain⟨u,rfl,d⟩:=vals1 r;cases d;exact call_int_bool ⟨.int (if k then 1 else 0),H,I.tok _,⟨_,rfl⟩,q⟩
def Ss(K:PySem.W.Frag)(x:V)(H:Hp)(n:Nat):Prop :=
 match x with
 | .str y=>y.length<=sizeLine/\n=y.length
 | .byt y=>y.size<=sizeLine/\n=y.size
 | .ref p=>(∃d,SqL K H p d/\n=d.length)\/∃d,SqT K H p d/\n=d.length
 | _=>False
theorem call_len:j7 X (.builtin "len") (λxs H Q=>∃x n,xs=[x]/\Ss X.K x H n/\Q (.int n) H):=by
 intro pins s σ H xs B Q I r h;obtain⟨x,n,rfl,e,q⟩:=h;obtain⟨u,rfl,f⟩:=vals1 r;have E:=qH;have C:sizeLine=16777216:=sizeLine_eq
 cases x with
 |str y =>
  obtain⟨t,rfl⟩:=f;obtain⟨m,d⟩:y.length<=sizeLine/\n=y.length:=e;subst d;exact len_str (by omega) ⟨.int _,H,I.tok _,⟨_,rfl⟩,q⟩
 |byt y =>
  obtain⟨t,rfl⟩:=f;obtain⟨m,d⟩:y.size<=sizeLine/\n=y.size:=e;subst d;exact PySem.W.len_bytes (by omega) ⟨.int _,H,I.tok _,⟨_,rfl⟩,q⟩
 |ref p =>
  cases f;have d:(∃xs,SqL X.K H p xs/\n=xs.length)\/∃xs,SqT X.K H p xs/\n=xs.length:=e
  rcases d with⟨xs,j,d⟩ | ⟨xs,j,d⟩
  ·subst d;obtain⟨k,g,i,l⟩:=I.list j;have hlen:=g.length;exact Calls.call_len_list i.isList (by simp only[zy];omega) ⟨.int xs.length,H,I.tok _,⟨_,by simp only[zy];rw[hlen]⟩,q⟩
  ·subst d;obtain⟨k,g,i,l⟩:=I.tuple j;have hlen:=g.length;exact len_tuple i (by simp only[zy];omega) ⟨.int xs.length,H,I.tok _,⟨_,by simp only[zy];rw[hlen]⟩,q⟩
 | _=>exact(show False from e).elim
end
structure mX(h:Heap)(x dx C:Addr)(mA:Str->Option Value):Prop where
 obj:h.get? x=some (PySem.W.instObj C dx)
 ns:h.Ns1 dx mA
 ne:dx≠x
theorem Su{h:Heap}{g:Addr}{d:Str->Option Value}(n:h.Ns1 g d):∃c,h.get? g=some c/\∀name,PySem.W.lookIn name c=some (d name):=by
 obtain⟨o,f,m,j,hd,l,_,k⟩:=n;refine⟨o,j,λname=>?_⟩;have e:=k name;unfold nsFind findBy at e;rw[<-Array.find?_toList] at e;unfold PySem.W.lookIn;rw[hd];dsimp only
 split
 ·rename_i y q;rw[q] at e;exact congrArg some e
 ·rename_i q;rw[q] at e
  have a:f.toList.any (·.refKey)=false:=by
   rw[List.any_eq_false];intro y i;obtain⟨z,t,b⟩:=l y (Array.mem_toList_iff.mp i);simp[DictEntry.refKey,b]
  have a':¬f.toList.any (·.refKey)=true:=by rw[a];exact zf
  rw[if_neg a'];exact congrArg some e
theorem mX.look{h:Heap}{x c C:Addr}{b:Str->Option Value}(I:mX h x c C b):∃a,PySem.W.InstAt h x (PySem.W.instObj C c) C (some a)/\∀name,PySem.W.lookIn name a=some (b name):=
 let ⟨a,ho,hl⟩:=Su I.ns
 ⟨a,⟨I.obj,rfl,rfl,ho⟩,hl⟩
section
variable {prog:Program}{w:World}{A:Around}{E:Value->Shared->Prop}{s:Shared}{K:PySem.W.Frag}{x dx C f:Addr}{mA:Str->Option Value}{name:Str}{v:Value}
theorem Sw{expr:Bool}{Q:Value->Shared->Prop}(X:K.In s.heap)(I:mX s.heap x dx C mA)(d:PySem.W.plainGet K C name=true)(c:PySem.W.hasDictIn K C=true)
  (g:PySem.W.findIn K (.ref C) name=some none) (hv:mA name=some v) (a:PySem.W.handedIn v=true) (h:Q v {s with toks:=s.toks+1}):
  wpAny (model prog w) A (getAttr (.ref x) name expr) Q E s:=by
 obtain⟨i,J,b⟩:=I.look;exact PySem.W.get_value X J (PySem.W.plainGet_of d).1 (PySem.W.findObj_own c g rfl (by rw[b,hv])) a h
theorem Sx{pl:Sem Bool}{Q:Value×List Value->Shared->Prop}(X:K.In s.heap)(I:mX s.heap x dx C mA)(a:PySem.W.plainGet K C name=true)
  (g:PySem.W.findIn K (.ref C) name=some (some (.ref f))) (c:PySem.W.isFn K (.ref f)=true) (hv:mA name=none) (h:Q (.ref f,[.ref x]) s):
  wpAny (model prog w) A (getMethod (.ref x) name pl) Q E s:=by
 obtain⟨b,J,d⟩:=I.look;exact PySem.W.method_fn X J (PySem.W.plainGet_of a).1 (PySem.W.plainGet_of a).2 g (beq_iff_eq.mp c) (by show(PySem.W.lookIn name b).map (·.isSome)=some false;rw[d,hv];rfl) h
theorem Sy{ns:List Str}{Q:Unit->Shared->Prop}(X:K.In s.heap)(I:mX s.heap x dx C mA)
  (hs:PySem.W.findIn K (.ref C) "__setattr__" = some (some (.builtin "object.__setattr__"))) (q:PySem.W.plainOver K C=true) (n:PySem.W.takerIn K C name=some none) (t:PySem.W.hasDictIn K C=true)
  (m:PySem.Within mA ns) (hsz:ns.length<=sizeLine)
  (h:∀h',mX h' x dx C (λy=>if y=name then some v else mA y)->Heap.SameBut dx s.heap h'->Q () {s with heap:=h',toks:=s.toks+2}):
  wpAny (model prog w) A (setAttr (.ref x) name v) Q E s:=by
 obtain⟨G,J,L⟩:=I.look;refine PySem.W.set_plain X J hs (PySem.W.osa_open (s:={s with toks:=s.toks+1}) (r:=none) X J q n λb=>?_);obtain⟨O,u,j⟩:=PySem.W.any_some t;have l:s.heap.get? x=some ⟨.ref C,some dx,.plain,#[]⟩:=I.obj;refine za (zb (za (za (wpAny_loadPart l (za (PySem.W.Looks.here (s:={s with toks:=s.toks+1}) (PySem.W.looks_clsIn X u) ?_))))));rw[j];refine zb (a:=some dx) (za (zb (za ?_)))
 refine wpAny_nsSet1 (s:={s with toks:=s.toks+1}) I.ns λh' d c=>?_
 obtain⟨H,B,F,g,i,k⟩:=d.count (PySem.Within.cons name v m);refine za (wpAny_lookBehind g (by rw[i];exact pastItsLine_dict (zG k (by rw[zo];omega))) ?_);exact zb (h _ ⟨(c.2 _ (Ne.symm I.ne)).trans I.obj,d,I.ne⟩ c)
theorem SJ{R:Result->Shared->Prop}{vs:List Value}{a:List (Str×Value)}(X:K.In s.heap)(b:PySem.W.makesIn K C=true)
  (c:PySem.W.findIn K (.ref C) "__init__" = some (some (.ref f))) (i:PySem.W.typeIn K (.ref f)=some (.type "function"))
  (h:codeAny (model prog w) (A.under (.builtin "type.__call__" ⟨.ref C::vs,a⟩)) (.call (.ref f) ⟨.ref (s.heap.objs.size+1)::vs,a⟩) (PySem.W.InitBack (s.heap.objs.size+1) R)
   {s with heap:=(s.heap.push PySem.W.emptyDict).push (PySem.W.instObj C s.heap.objs.size)}):
  codeAny (model prog w) A (.call (.ref C) ⟨vs,a⟩) R s:=by
 obtain⟨j,g,d,t,os⟩:=s;exact PySem.W.make_core (PySem.W.makes_of X b) (PySem.W.looks_findIn X c) (λself=>PySem.W.bind_fn X self i) (.inl rfl) h
end
def d8(f:Str)(v:V):List (Str×V)->List (Str×V)
 | []=>[(f,v)]
 | (g,x)::r=>if g=f then(g,v)::r else(g,x)::d8 f v r
theorem G8(f g:Str)(v:V):∀fs:List (Str×V),(d8 f v fs).lookup g=if g=f then some v else fs.lookup g
 | []=>by
  show List.lookup g [(f,v)]=_
  by_cases h:g=f
  ·have a:(g == f)=true:=beq_iff_eq.mpr h;simp only[List.lookup,a,if_pos h]
  ·have a:(g == f)=false:=beq_eq_false_iff_ne.mpr h;simp only[List.lookup,a,if_neg h]
 | (k,x)::r=>by
  have c:=G8 f g v r;rw[show d8 f v ((k,x)::r)=(if k=f then(k,v)::r else(k,x)::d8 f v r) from rfl]
  by_cases b:k=f
  ·rw[if_pos b]
   by_cases h:g=k
   ·have a:(g == k)=true:=beq_iff_eq.mpr h;simp only[List.lookup,a,if_pos (h.trans b)]
   ·have a:(g == k)=false:=beq_eq_false_iff_ne.mpr h;simp only[List.lookup,a,if_neg (λe:g=f=>h (e.trans b.symm))]
  ·rw[if_neg b]
   by_cases h:g=k
   ·have a:(g == k)=true:=beq_iff_eq.mpr h;simp only[List.lookup,a,if_neg (λe:g=f=>b (h.symm.trans e))]
   ·have a:(g == k)=false:=beq_eq_false_iff_ne.mpr h;simp only[List.lookup,a];exact c
theorem xj(f:Str)(v:V):∀fs:List (Str×V),f∈(d8 f v fs).map (·.1)/\∀g,g∈fs.map (·.1)->g∈(d8 f v fs).map (·.1)
 | []=>⟨by simp[d8],λg h=>by simp at h⟩
 | (k,x)::r=>by
  obtain⟨c,b⟩:=xj f v r;rw[show d8 f v ((k,x)::r)=(if k=f then(k,v)::r else(k,x)::d8 f v r) from rfl]
  by_cases a:k=f
  ·rw[if_pos a];subst a;exact⟨by simp,λg h=>by simpa using h⟩
  ·rw[if_neg a];refine⟨?_,λg h=>?_⟩
   ·rw[zh];exact zn _ c
   ·rw[zh] at h ⊢
    rcases zk.mp h with e | e
    ·exact zk.mpr (.inl e)
    ·exact zn _ (b g e)
theorem G9(f:Str)(v:V):∀fs:List (Str×V),(d8 f v fs).length<=fs.length+1
 | []=>by simp[d8]
 | (k,x)::r=>by
  have b:=G9 f v r;rw[show d8 f v ((k,x)::r)=(if k=f then(k,v)::r else(k,x)::d8 f v r) from rfl]
  by_cases a:k=f
  ·rw[if_pos a,zo,zo];omega
  ·rw[if_neg a,zo,zo];omega
theorem eH.some_of{v:V}{o:Option Value}(r:eH (some v) o):∃u,o=some u/\RelV v u:=by
 cases o with
 |none=>exact(show False from r).elim
 |some u=>exact⟨u,rfl,r⟩
theorem eH.none_of{o:Option Value}(r:eH none o):o=none:=by
 cases o with
 |none=>rfl
 |some u=>exact(show False from r).elim
theorem SM{v:V}{u:Value}(r:RelV v u):PySem.W.handedIn u=true:=by
 cases v with
 |non=>cases(show u=Value.none from r);rfl
 |bl b=>cases(show u=Value.bool b from r);rfl
 |int i=>obtain⟨t,e⟩:=(show ∃t,u=Value.int i t from r);cases e;rfl
 |str x=>obtain⟨t,e⟩:=(show ∃t,u=Value.str x t from r);cases e;rfl
 |byt b=>obtain⟨t,e⟩:=(show ∃t,u=Value.bytes b t from r);cases e;rfl
 |flt b=>obtain⟨t,e⟩:=(show ∃t,u=Value.float b t from r);cases e;rfl
 |ref a=>cases(show u=Value.ref a from r);rfl
 |ty n=>cases(show u=Value.type n from r);rfl
section
variable {P:Program}{w:World}{H H':Hp}{h h':Heap}{a C dx:Addr}{fs fs':List (Str×V)}
theorem ud(hok:HOk P w H h)(e:H a=some (.ins C dx fs)):∃b,mX h a dx C b/\(∀f,eH (fs.lookup f) (b f))/\PySem.Within b (fs.map (·.1))/\fs.length<=1000/\H dx=some (.own a):=by
 obtain⟨d,z,ne,ob,b,n,r,q⟩:=(show cC P w H h a (.ins C dx fs) from hok a _ e);exact⟨b,⟨ob,n,ne⟩,r,q,z,d⟩
end
structure Cls(K:PySem.W.Frag)(C:Addr):Prop where
 pg:PySem.W.plainGet K C Str.empty=true
 hd:PySem.W.hasDictIn K C=true
 po:PySem.W.plainOver K C=true
 sa:PySem.W.findIn K (.ref C) "__setattr__" = some (some (.builtin "object.__setattr__"))
theorem Cls.get{K:PySem.W.Frag}{C:Addr}(c:Cls K C)(f:Str):PySem.W.plainGet K C f=true:=c.pg
def mY(K:PySem.W.Frag)(C:Addr)(f:Str):Prop:=PySem.W.findIn K (.ref C) f=some none
theorem mY.taker{K:PySem.W.Frag}{C:Addr}{f:Str}(n:mY K C f):PySem.W.takerIn K C f=some none:=by
 unfold PySem.W.takerIn;rw[show PySem.W.findIn K (.ref C) f=some none from n];rfl
structure Con(K:PySem.W.Frag)(C:Addr)(f:Str)(v:V)(u:Value):Prop where
 at_:PySem.W.findIn K (.ref C) f=some (some u)
 rel:RelV v u
 get:PySem.W.specialIn K u "__get__" = some none
 cp:PySem.W.copiedNames.contains f=false
structure qI(K:PySem.W.Frag)(C:Addr)(m:Str)(f:Addr):Prop where
 at_:PySem.W.findIn K (.ref C) m=some (some (.ref f))
 fn:PySem.W.isFn K (.ref f)=true
 kp:PySem.W.keepIn K (.ref f)=true
section
variable {X:Cx}{pins:List (Addr×Obj)}{σ:St}{H:Hp}{s:Shared}{a C dx:Addr}{fs:List (Str×V)}{f:Str}{v:V}{A:Around}{E:Value->Shared->Prop}
theorem SN{b:Bool}{Q:Value->Shared->Prop}(I:Inv X pins σ H s)(e:H a=some (.ins C dx fs))(c:Cls X.K C)(n:mY X.K C f)(l:fs.lookup f=some v)
  (h:∀u d,Inv X pins σ H d->RelV v u->Q u d):wpAny (model X.prog X.w) A (getAttr (.ref a) f b) Q E s:=by
 obtain⟨i,O,r,_,_,_⟩:=ud I.hok e;obtain⟨u,j,g⟩:=eH.some_of (v:=v) (o:=i f) (by rw[<-l];exact r f);exact Sw I.kIn O (c.get f) c.hd n j (SM g) (h u _ (I.tok _) g)
theorem Ha{m:Str}{g:Addr}{pl:Sem Bool}{Q:Value×List Value->Shared->Prop}(I:Inv X pins σ H s)(e:H a=some (.ins C dx fs))(c:Cls X.K C)(k:qI X.K C m g)(l:fs.lookup m=none)
  (h:Q (.ref g,[.ref a]) s):wpAny (model X.prog X.w) A (getMethod (.ref a) m pl) Q E s:=by
 obtain⟨b,O,r,_,_,_⟩:=ud I.hok e;have d:b m=none:=eH.none_of (by rw[<-l];exact r m);exact Sx I.kIn O (c.get m) k.at_ k.fn d h
theorem SQ{y:V}{u:Value}{Q:Unit->Shared->Prop}(I:Inv X pins σ H s)(e:H a=some (.ins C dx fs))(c:Cls X.K C)(n:mY X.K C f)(L:fs.length<1000)(t:RelV y u)
  (h:∀j,Inv X pins σ (upd H a (.ins C dx (d8 f y fs))) j->Q () j):wpAny (model X.prog X.w) A (setAttr (.ref a) f u) Q E s:=by
 obtain⟨k,O,r,i,_,l⟩:=ud I.hok e
 have B:(fs.map (·.1)).length<=sizeLine:=by rw[ze,sizeLine_eq];omega
 refine Sy I.kIn O c.sa c.po n.taker c.hd i B λJ d m=>h _ ?_
 have hd:∃o,J.get? dx=some o:=let ⟨o,_,_,e',_⟩:=d.ns;⟨o,e'⟩;refine I.write (x:=a) (e:=dx) (by rw[e];exact True.intro) (.inr l) (λb q G z=>(m.2 b G).trans z) hd ?_;refine⟨by rw[aQ O.ne];exact l,?_,O.ne,d.obj,_,d.ns,λg=>?_,λg F=>?_⟩
 ·have:=G9 f y fs;omega
 ·show eH ((d8 f y fs).lookup g) (if g=f then some u else k g);rw[G8]
  by_cases q:g=f
  ·rw[if_pos q,if_pos q];exact t
  ·rw[if_neg q,if_neg q];exact r g
 ·by_cases q:g=f
  ·rw[q];exact(xj f y fs).1
  ·refine(xj f y fs).2 g (i g λz=>F ?_);show(if g=f then some u else k g)=none;rw[if_neg q];exact z
theorem Inv.made(I:Inv X pins σ H s):Inv X pins σ (upd (upd H s.heap.objs.size (.own (s.heap.objs.size+1))) (s.heap.objs.size+1) (.ins C s.heap.objs.size []))
  {s with heap:=(s.heap.push PySem.W.emptyDict).push (PySem.W.instObj C s.heap.objs.size)}:=by
 have c:(s.heap.push PySem.W.emptyDict).get? s.heap.objs.size=some PySem.W.emptyDict:=zw s.heap rfl
 have i:((s.heap.push PySem.W.emptyDict).push (PySem.W.instObj C s.heap.objs.size)).get? (s.heap.objs.size+1)=some (PySem.W.instObj C s.heap.objs.size):=by
  have:=zw (s.heap.push PySem.W.emptyDict) (o:=PySem.W.instObj C s.heap.objs.size) rfl
  rwa [Heap.size_push] at this
 have h:(s.heap.push PySem.W.emptyDict).Ns s.heap.objs.size (λ_=>none):=⟨PySem.W.emptyDict,#[],_,c,rfl,(λe g=>absurd g (by simp)),λ_=>rfl⟩;have j:=I.laid (a:=s.heap.objs.size) (o:=.own (s.heap.objs.size+1)) (h':=s.heap.push PySem.W.emptyDict) (t':=s.toks) (λb u q=>zm _ q) (zc _) ⟨_,c⟩;refine j.laid (a:=s.heap.objs.size+1) (o:=.ins C s.heap.objs.size []) (t':=s.toks) (λb u q=>zm _ q) (Nat.le_of_eq (Heap.size_push _ _)) ?_;have ne:s.heap.objs.size≠s.heap.objs.size+1:=zp (zY _);refine⟨by rw[aQ ne,cg],Nat.zero_le _,ne,i,λ_=>none,(Heap.Ns1.of_empty h).at λo q=>zm _ q,λ_=>True.intro,λy d=>absurd rfl d⟩
theorem SX{prog:Program}{w:World}{env:Env}{e:Expr}{f:Str}{c:Pos}{s:Shared}{Q:Value->Shared->Prop}(hb:attributeBase e f env (eval e env)=eval e env)
  (h:wpAny (model prog w) A (eval e env) (λo b=>wpAny (model prog w) A (getAttr o f true) Q E b) E s):wpAny (model prog w) A (eval (.Attribute e f c) env) Q E s :=
 Attribute_any_ h (by rw[arm_eval_Attribute,hb])
end
def S5(K:PySem.W.Frag)(c:TE)(f:Str):TE:=λσ H Q=>c σ H λx b=>∃a C d fs v,x=.ref a/\b a=some (.ins C d fs)/\Cls K C/\mY K C f/\fs.lookup f=some v/\Q v b
def S6(K:PySem.W.Frag)(g d:TE)(f:Str):TS:=λD σ H=>d σ H λy h=>g σ h λx c=>∃a C b fs,x=.ref a/\c a=some (.ins C b fs)/\Cls K C/\mY K C f/\fs.length<1000 /\
 D.nx σ (upd c a (.ins C b (d8 f y fs)))
section
variable {X:Cx}{o e value:Expr}{f:Str}{pos pos' tpos:Pos}{ta tv:TE}
theorem S7(d:PE X e ta)(hb:attributeBase e f X.env (eval e X.env)=eval e X.env):PE X (.Attribute e f pos) (S5 X.K ta f):=by
 intro pins s σ H Q I h;refine SX hb (thn (d pins s σ H _ I h) λu s1 ⟨x,H1,I1,rx,a,C,dx,fs,v,ex,ea,c,n,l,q⟩=>?_);subst ex;obtain rfl:u=Value.ref a:=rx
 exact SN I1 ea c n l λi j g b=>⟨v,H1,g,b,q⟩
theorem S8(b:PE X o ta)(hv:PE X value tv)(hs:swapsWith value (some (.Attribute o f pos')) pos.line X.env=pure false):PS X (.Assign [.Attribute o f pos'] value pos) (S6 X.K ta tv f):=by
 intro pins s σ H D I h;refine plainObj_wpAny_Assign_Attribute (thn (hv pins s σ H _ I h) λu s1 ⟨y,H1,I1,ry,q⟩=>thn (b pins s1 σ H1 _ I1 q) λov s2 ⟨x,H2,I2,rx,a,C,dx,fs,ex,ea,c,n,l,q2⟩=>?_) hs;subst ex;obtain rfl:ov=Value.ref a:=rx
 exact SQ I2 ea c n l ry λg d=>⟨σ,_,d,q2⟩
end
section
variable {X:Cx}{pins:List (Addr×Obj)}{σ:St}{H:Hp}{s:Shared}{A:Around}{E:Value->Shared->Prop}{Q:Value->Shared->Prop}{c:Value}{b:Bool}
inductive gU (K:PySem.W.Frag) (H:Hp):V->Value->Prop where
 | non:gU K H .non (.type "NoneType")
 | bl (x:Bool):gU K H (.bl x) (.type "bool")
 | int (i:Int):gU K H (.int i) (.type "int")
 | str (x:Str):gU K H (.str x) (.type "str")
 | flt (x:UInt64):gU K H (.flt x) (.type "float")
 | lst {a:Addr}{xs:List V} (e:H a=some (.lst xs)):gU K H (.ref a) (.type "list")
 | frz {a:Addr}{o:Obj}{xs:List V} (e:H a=some (.frz o (.lst xs))):gU K H (.ref a) (.type "list")
 | tup {a:Addr}{xs:List V} (e:H a=some (.tup xs)):gU K H (.ref a) (.type "tuple")
 | dK {a:Addr}{kvs:List (Key×V)} (e:H a=some (.dK kvs)):gU K H (.ref a) (.type "dict")
 | dT {a:Addr}{kvs:List (List Key×V)} (e:H a=some (.dT kvs)):gU K H (.ref a) (.type "dict")
 | ins {a C dx:Addr}{fs:List (Str×V)} (e:H a=some (.ins C dx fs)) (cl:Cls K C) (ha:PySem.W.findIn K (.ref C) "__class__" = some (some (.builtin "object.__class__")))
   (hn:PySem.W.specialIn K (.builtin "object.__class__") "__get__" = some (some (.builtin "getset_descriptor.__get__"))) (htk:PySem.W.takesIn K (.builtin "object.__class__")=some true)
   (hm:PySem.W.mroIn K C (.type "object")=some true):gU K H (.ref a) (.ref C)
theorem qJ{x:V}{u t:Value}(I:Inv X pins σ H s)(d:RelV x u)(ty:gU X.K H x t)(e:PySem.W.kitOne X.K t c=some b)(h:∀tk,Q (.bool b) {s with toks:=tk}):
  wpAny (model X.prog X.w) A (call (.builtin "isinstance") [u,c]) Q E s:=by
 cases ty with
 |non=>cases(show u=Value.none from d);exact PySem.W.kia_one PySem.W.kitx_none I.kIn True.intro e (λz=>nomatch z) h
 |bl y=>cases(show u=Value.bool y from d);exact PySem.W.kia_one PySem.W.kitx_bool I.kIn True.intro e (λz=>nomatch z) h
 |int i=>obtain⟨t,q⟩:=(show ∃t,u=Value.int i t from d);cases q;exact PySem.W.kia_one PySem.W.kitx_int I.kIn True.intro e (λz=>nomatch z) h
 |str y=>obtain⟨t,q⟩:=(show ∃t,u=Value.str y t from d);cases q;exact PySem.W.kia_one PySem.W.kitx_str I.kIn True.intro e (λz=>nomatch z) h
 |flt y=>obtain⟨t,q⟩:=(show ∃t,u=Value.float y t from d);cases q;exact PySem.W.kia_one PySem.W.kitx_float I.kIn True.intro e (λz=>nomatch z) h
 | @lst a f ea =>
  cases(show u=Value.ref a from d);obtain⟨_,_,n,_,h1⟩:=(show cC X.prog X.w H s.heap a (.lst f) from I.hok a _ ea);exact PySem.W.kia_one PySem.W.kitx_list I.kIn ⟨_,h1,rfl⟩ e (λz=>nomatch z) h
 | @frz a ob f ea =>
  cases(show u=Value.ref a from d);obtain⟨_,_,_,n,_,h1⟩:=(show cC X.prog X.w H s.heap a (.frz ob (.lst f)) from I.hok a _ ea);exact PySem.W.kia_one PySem.W.kitx_list I.kIn ⟨_,h1,rfl⟩ e (λz=>nomatch z) h
 | @tup a f ea =>
  cases(show u=Value.ref a from d);obtain⟨_,_,_,p⟩:=(show cC X.prog X.w H s.heap a (.tup f) from I.hok a _ ea);obtain⟨o,h1,h2,_⟩:=p;exact PySem.W.kia_one PySem.W.kitx_tuple I.kIn ⟨o,h1,h2⟩ e (λz=>nomatch z) h
 | @dK a kvs ea =>
  cases(show u=Value.ref a from d);obtain⟨_,_,k,_,p⟩:=(show cC X.prog X.w H s.heap a (.dK kvs) from I.hok a _ ea);obtain⟨o,g,j,h1,h2,_⟩:=p;exact PySem.W.kia_one PySem.W.kitx_dict I.kIn ⟨o,h1,h2.1⟩ e (λz=>nomatch z) h
 | @dT a kvs ea =>
  cases(show u=Value.ref a from d);obtain⟨_,_,f,_,o,g,j,h1,h2,_⟩:=(show cC X.prog X.w H s.heap a (.dT kvs) from I.hok a _ ea);exact PySem.W.kia_one PySem.W.kitx_dict I.kIn ⟨o,h1,h2.1⟩ e (λz=>nomatch z) h
 | @ins a C dx fs ea cl ha hn htk hm =>
  cases(show u=Value.ref a from d);obtain⟨m,O,_⟩:=ud I.hok ea;obtain⟨l,J,_⟩:=O.look;exact PySem.W.kia_one (PySem.W.kitx_own (cl.get _) cl.hd ha hn htk hm) I.kIn J e (λz=>nomatch z) h
end
structure bC(k:Nat)(A:Around):Prop where
 hd:A.handled=none
 dp:A.depth+3 * k+5<recursionLimit
 un:A.units+16 * k+200<cLine
theorem bC.mono{j k:Nat}{A:Around}(r:bC k A)(h:j<=k):bC j A:=⟨r.hd,by have:=r.dp;omega,by have:=r.un;omega⟩
theorem bC.deeper{k:Nat}{A:Around}(r:bC (k+1) A)(env:Env):bC k (A.deeper env):=
 ⟨r.hd,by have:=r.dp;show A.depth+1+3 * k+5<_;omega,by have:=r.un;show A.units+3+16 * k+200<_;omega⟩
theorem S9{A:Around}{C:Addr}{us:List Value}{a:List (Str×Value)}:(A.under (.builtin "type.__call__" ⟨.ref C::us,a⟩)).depth=A.depth+1:=by
 first | rfl | simp[Around.under,Code.weight,Code.isCreation,Code.isGuard,Code.isCaller,Code.frames,Code.isFrame,guardIds]
theorem Tc{A:Around}{C:Addr}{us:List Value}{a:List (Str×Value)}:(A.under (.builtin "type.__call__" ⟨.ref C::us,a⟩)).units=A.units+1:=by
 first | rfl | simp[Around.under,Code.cUnits,Code.frames,Code.isFrame]
theorem bC.make{k:Nat}{A:Around}(r:bC (k+1) A)(C:Addr)(us:List Value)(a:List (Str×Value)):bC k (A.under (.builtin "type.__call__" ⟨.ref C::us,a⟩)):=
 ⟨r.hd,by have:=r.dp;rw[S9];omega,by have:=r.un;rw[Tc];omega⟩
theorem bC.depth{k:Nat}{A:Around}(r:bC k A):A.depth<recursionLimit:=by have:=r.dp;omega
theorem bC.units{k:Nat}{A:Around}(r:bC k A):A.units+64<cLine:=by have:=r.un;omega
def qK:TA:=λ_ H Q=>Q [] H
def Td(c:TE)(b:TA):TA:=λσ H Q=>c σ H λx f=>b σ f λa d=>Q (x::a) d
section
variable {X:Cx}{e:Expr}{es:List Expr}{te:TE}{t:TA}{pos:Pos}
theorem jz:PA X [] qK:=λ_ _ _ _ H Q I h=>Calls.spliced_nil ⟨[],H,I,.nil,h⟩
theorem gW(b:PE X e te)(a:PA X es t)(hs:starEach (e::es) X.env=(false,eval e X.env)::starEach es X.env:=by rfl):PA X (e::es) (Td te t):=by
 intro pos pins s σ H Q I h;rw[hs];show wpAny _ _ (spliced ((false,eval e X.env)::backTo pos (starEach es X.env))) _ _ s;refine Calls.spliced_cons (thn (b pins s σ H _ I h) λu s1 ⟨x,H1,I1,r1,q1⟩=>?_)
 exact thn (a pos pins s1 σ H1 _ I1 q1) λus s2 ⟨xs,H2,I2,r2,q2⟩=>⟨x::xs,H2,I2,.cons r1 r2,q2⟩
def Te(t:TA):TE:=λσ H Q=>t σ H λa b=>a.length<=sizeLine/\∀p,b p=none->Q (.ref p) (upd b p (.tup a))
def Tf(t:TA):TE:=λσ H Q=>t σ H λa b=>a.length<=sizeLine/\∀p,b p=none->Q (.ref p) (upd b p (.lst a))
theorem Tg{x1}(h:PA X es t):PE X (.Tuple es x1 pos) (Te t):=by
 intro pins s σ H Q I a;refine wpAny_Tuple_spliced (thn (h pos pins s σ H _ I a) λus s1 ⟨xs,H1,I1,r,z,q⟩=>⟨by rw[<-r.length];exact z,?_⟩);have c:H1 s1.heap.objs.size=none:=I1.hok.fresh (zc _);refine⟨.ref s1.heap.objs.size,upd H1 s1.heap.objs.size (.tup xs),I1.laid (t':=s1.toks) (λb u e=>zm _ e) (zc _) ?_,rfl,q _ c⟩;exact⟨z,us,r,⟨_,zw _ rfl,rfl,_,rfl⟩⟩
theorem Th(h:PA X es t):PE X (.List es pos) (Tf t):=by
 intro pins s σ H Q I a;refine wpAny_List_spliced (thn (h pos pins s σ H _ I a) λus s1 ⟨xs,H1,I1,r,z,q⟩=>⟨by rw[<-r.length];exact z,?_⟩);have c:H1 s1.heap.objs.size=none:=I1.hok.fresh (zc _);refine⟨.ref s1.heap.objs.size,upd H1 s1.heap.objs.size (.lst xs),I1.laid (t':=s1.toks) (λb u e=>zm _ e) (zc _) ?_,rfl,q _ c⟩;exact⟨z,us,0,r,zw _ rfl⟩
end
abbrev Sp:=List V->Hp->VK->XK->Prop
abbrev CXT:=List Env->Hp->Shared->XK->Value->Shared->Prop
structure jA(P:Program)(w:World)(K:PySem.W.Frag)(mg:Str->Option Value)(base:Heap)(A:Around)(outer:List Env)(s:Shared)(H:Hp):Prop where
 frames:A.frames=some outer
 mod:Mod K mg base
 bs:∀b o,base.get? b=some o->s.heap.get? b=some o/\H b=none
 bsz:base.objs.size<=s.heap.objs.size
 funs:s.heap.FunFrames base outer
 frf:∀b∈frs outer,H b=none
 hok:HOk P w H s.heap
 bare:AllBare s.gens
def CE(outer:List Env)(P:Program)(w:World)(H:Hp)(s:Shared)(Q:VK)(u:Value)(a:Shared):Prop :=
 ∃v b,a.os=s.os/\AllBare a.gens/\Un (frs outer) [] H b s.heap a.heap/\HOk P w b a.heap/\RelV v u/\Q v b
def CR(CX:CXT)(outer:List Env)(P:Program)(w:World)(H:Hp)(s:Shared)(Q:VK)(E:XK)(r:Result)(a:Shared):Prop :=
 match r with
 | .ok (.ret u)=>CE outer P w H s Q u a
 | .ok _=>False
 | .error e=>CX outer H s E e a
structure dq(P:Program)(w:World)(K:PySem.W.Frag)(mg:Str->Option Value)(base:Heap)(CX:CXT)(k:Nat)(f:Addr)(fd:FuncData)(ps:List Str)(sp:Sp):Prop where
 len:∀vs H Q E,sp vs H Q E->vs.length=ps.length
 run:∀(A:Around) (outer:List Env) (s:Shared) (H:Hp) (args:Args) (us:List Value) (vs:List V) (Q:VK) (E:XK),bC k A->jA P w K mg base A outer s H->BindsTo s fd args (ps.zip us)->aW vs us->sp vs H Q E ->
  codeAny (model P w) A (.call (.ref f) args) (CR CX outer P w H s Q E) s
theorem dq.imp{P:Program}{w:World}{K:PySem.W.Frag}{mg:Str->Option Value}{base:Heap}{CX:CXT}{k:Nat}{f:Addr}{fd:FuncData}{ps:List Str}{sp a:Sp}(F:dq P w K mg base CX k f fd ps sp)
  (h:∀vs H Q E,a vs H Q E->sp vs H Q E):dq P w K mg base CX k f fd ps a :=
 ⟨λvs H Q E q=>F.len vs H Q E (h _ _ _ _ q),λA outer s H args b vs Q E g i j c d=>F.run A outer s H args b vs Q E g i j c (h _ _ _ _ d)⟩
theorem jA.make{P:Program}{w:World}{K:PySem.W.Frag}{mg:Str->Option Value}{base:Heap}{A:Around}{outer:List Env}{s:Shared}{H:Hp}(e:jA P w K mg base A outer s H)(C:Addr)(us:List Value)(a:List (Str×Value)):
  jA P w K mg base (A.under (.builtin "type.__call__" ⟨.ref C::us,a⟩)) outer s H:=⟨by first | exact e.frames | (simpa [Around.under,Code.envs,Code.isFrame,pushEnvs] using e.frames),e.mod,e.bs,e.bsz,e.funs,e.frf,e.hok,e.bare⟩
section
variable {X:Cx}{pins:List (Addr×Obj)}{σ:St}{H:Hp}{s s':Shared}
theorem Inv.env0(I:Inv X pins σ H s):jA X.prog X.w X.K X.mg X.base X.A X.stack s H :=
 ⟨I.ok.frames,I.ok.mod,I.bs,zG I.ok.bsz I.sz,I.stack,I.stkFree,I.hok,I.bare⟩
theorem Inv.after{Q:VK}{u:Value}(I:Inv X pins σ H s)(h:CE X.stack X.prog X.w H s Q u s'):EP X pins σ Q u s':=by
 obtain⟨v,f,os,bare,un,hok,r,q⟩:=h;obtain⟨c,g,d,t,a⟩:=s';obtain rfl:a=s.os:=os;exact⟨v,f,I.call (h':=c) (g':=g) (d':=d) (t':=t) (ch:=[]) un hok bare (λb z=>absurd z (by simp)),r,q⟩
end
def qL(sp:Sp)(dvs:List V)(E:XK)(t:TA):TE:=λσ H Q=>t σ H λa b=>sp (a++dvs) b Q E
def xn(C:Addr)(m:Str)(sp:Sp)(dvs:List V)(E:XK)(d:TE)(t:TA):TE:=λσ H Q=>d σ H λx b=>∃a f fs,x=.ref a/\b a=some (.ins C f fs)/\fs.lookup m=none /\
 t σ b λc g=>sp (x::(c++dvs)) g Q E
def xq(C:Addr)(sp:Sp)(dvs:List V)(E:XK)(t:TA):TE:=λσ H Q=>t σ H λc b=>∀x a,b x=none->b a=none->a≠x ->
 sp (.ref x::(c++dvs)) (upd (upd b a (.own x)) x (.ins C a [])) (λv d=>v=.non/\Q (.ref x) d) E
def Binds(K:PySem.W.Frag)(fd:FuncData)(ps:List Str)(ds:List Value):Prop :=
 ∀(s:Shared) (a:List Value),K.In s.heap->(a++ds).length=ps.length->BindsTo s fd ⟨a,[]⟩ (ps.zip (a++ds))
theorem Binds.all{K:PySem.W.Frag}{fd:FuncData}{ps:List Str}(h:∀us:List Value,us.length=ps.length->bindArgs fd ⟨us,[]⟩=pure (ps.zip us)):Binds K fd ps []:=λs us _ a=>by
 rw[zU] at a ⊢;exact .of_eq (h us a)
def j8(CX:CXT)(X:Cx)(E:XK):Prop:=∀(pins:List (Addr×Obj)) (σ:St) (H:Hp) (s:Shared) (e:Value) (a:Shared),Inv X pins σ H s->CX X.stack H s E e a->X.xe e a
section
variable {X:Cx}{CX:CXT}{k:Nat}{f C:Addr}{fd:FuncData}{ps:List Str}{sp:Sp}{dvs:List V}{ds:List Value}{E:XK}{x m:Str}{p pos apos:Pos}{e o:Expr}{es:List Expr}{ta:TE}{t:TA}
theorem ue{pins:List (Addr×Obj)}{σ:St}{H:Hp}{s:Shared}{Q:VK}{us:List Value}{vs:List V}(F:dq X.prog X.w X.K X.mg X.base CX k f fd ps sp)(g:bC k X.A)(hb:Binds X.K fd ps ds)(hd:aW dvs ds)(d:j8 CX X E)
  (I:Inv X pins σ H s) (r:aW vs us) (h:sp (vs++dvs) H Q E):wpAny (model X.prog X.w) X.A (call (.ref f) us) (EP X pins σ Q) X.xe s:=by
 have b:aW (vs++dvs) (us++ds):=r.append hd
 have i:(us++ds).length=ps.length:=by rw[<-b.length];exact F.len _ _ _ _ h
 refine wpAny_call (codeAny_mono (F.run X.A X.stack s H ⟨us,[]⟩ (us++ds) (vs++dvs) Q E g I.env0 (hb s us I.kIn i) b h) λr c a=>?_)
 cases r with
 |error e=>exact d pins σ H s e c I a
 |ok fl =>
  cases fl with
  |ret u=>exact I.after a
  |next=>exact False.elim a
  |brk=>exact False.elim a
  |cont=>exact False.elim a
theorem Ti(F:dq X.prog X.w X.K X.mg X.base CX k f fd ps sp)(d:bC k X.A)(j:Gl X x)(g:X.mg x=some (.ref f))(i:PySem.W.keepIn X.K (.ref f)=true)(hb:Binds X.K fd ps ds)(hd:aW dvs ds)(c:j8 CX X E)
  (n:PA X (e::es) t) (b:(x == ("__debug__":Str))=false:=by decide) (l:starEach (e::es) X.env=(false,eval e X.env)::starEach es X.env:=by rfl) (a:(backTo pos (starEach es X.env)).any (·.1)=false:=by rfl):
  PE X (.Call (.Name x p) (e::es) [] pos) (qL sp dvs E t):=by
 intro pins s σ H Q I h;refine wpAny_Call_Name_kw (qD I j g ?_ b);refine PySem.W.callWith_K (h₀:=X.base) I.ok.mod.kin i (thn (n pos pins s σ H _ I h) λus s1 ⟨vs,H1,I1,r,q⟩=>⟨I1.kIn,?_⟩) l a;exact ue F d hb hd c I1 r q
theorem Tj(F:dq X.prog X.w X.K X.mg X.base CX k f fd ps sp)(c:bC k X.A)(i:Gl X x)(d:X.mg x=some (.ref f))(g:PySem.W.keepIn X.K (.ref f)=true)(hb:Binds X.K fd ps ds)(hd:aW dvs ds)(b:j8 CX X E)
  (a:(x == ("__debug__":Str))=false:=by decide):PE X (.Call (.Name x p) [] [] pos) (qL sp dvs E qK):=by
 intro pins s σ H Q I h;refine wpAny_Call_Name_kw (qD I i d ?_ a);exact PySem.W.callWith_K0 I.kIn g (ue (us:=[]) F c hb hd b I .nil h)
theorem Tn{pl:Sem Bool}(y:PE X o ta)(c:Cls X.K C)(g:qI X.K C m f)(F:dq X.prog X.w X.K X.mg X.base CX k f fd ps sp)(n:bC k X.A)(hb:Binds X.K fd ps ds)(hd:aW dvs ds)(i:j8 CX X E)(B:PA X (e::es) t)
  (b:starEach (e::es) X.env=(false,eval e X.env)::starEach es X.env:=by rfl) (d:(backTo pos (starEach es X.env)).any (·.1)=false:=by rfl)
  (j:eval (.Call (.Attribute o m apos) (e::es) [] pos) X.env=(do
   let ov <-eval o X.env
   standAt apos.atName
   let (f,first) <-holding [ov] (getMethod ov m pl)
   callWith pos f first (backTo pos (starEach (e::es) X.env)) (backToKw pos (keywordEach [] X.env))):=by rfl):
  PE X (.Call (.Attribute o m apos) (e::es) [] pos) (xn C m sp dvs E ta t):=by
 intro pins s σ H Q I h;refine PySem.W.methodCall_KW (pl:=pl) (thn (y pins s σ H _ I h) λu s1 ⟨x,H1,I1,rx,a,dx,fs,ex,ea,l,q⟩=>?_) j;subst ex;obtain rfl:u=Value.ref a:=rx;refine Ha I1 ea c g l ?_;refine PySem.W.callWith_K (first:=[.ref a]) (h₀:=X.base) I.ok.mod.kin g.kp (thn (B pos pins s1 σ H1 _ I1 q) λus s2 ⟨vs,H2,I2,r,q2⟩=>⟨I2.kIn,?_⟩) b d;exact ue (us:=.ref a::us) (vs:=.ref a::vs) F n hb hd i I2 (.cons rfl r) q2
theorem Tp{pl:Sem Bool}(j:PE X o ta)(c:Cls X.K C)(b:qI X.K C m f)(F:dq X.prog X.w X.K X.mg X.base CX k f fd ps sp)(i:bC k X.A)(hb:Binds X.K fd ps ds)(hd:aW dvs ds)(d:j8 CX X E)
  (g:eval (.Call (.Attribute o m apos) [] [] pos) X.env=(do
   let ov <-eval o X.env
   standAt apos.atName
   let (f,first) <-holding [ov] (getMethod ov m pl)
   callWith pos f first (backTo pos (starEach [] X.env)) (backToKw pos (keywordEach [] X.env))):=by rfl):
  PE X (.Call (.Attribute o m apos) [] [] pos) (xn C m sp dvs E ta qK):=by
 intro pins s σ H Q I h;refine PySem.W.methodCall_KW (pl:=pl) (thn (j pins s σ H _ I h) λu s1 ⟨x,H1,I1,rx,a,dx,fs,ex,ea,l,q⟩=>?_) g;subst ex;obtain rfl:u=Value.ref a:=rx;refine Ha I1 ea c b l ?_;exact PySem.W.callWith_K0 (first:=[.ref a]) I1.kIn b.kp (ue (us:=[.ref a]) (vs:=[.ref a]) F i hb hd d I1 (.cons rfl .nil) q)
structure Mk(K:PySem.W.Frag)(C f:Addr):Prop where
 makes:PySem.W.makesIn K C=true
 init:PySem.W.findIn K (.ref C) "__init__" = some (some (.ref f))
 fn:PySem.W.isFn K (.ref f)=true
 kp:PySem.W.keepIn K (.ref C)=true
theorem Hb{pins:List (Addr×Obj)}{σ:St}{H:Hp}{s:Shared}{Q:VK}{us:List Value}{vs:List V}(M:Mk X.K C f)(F:dq X.prog X.w X.K X.mg X.base CX k f fd ps sp)(n:bC (k+1) X.A)(hb:Binds X.K fd ps ds)(hd:aW dvs ds)
  (l:j8 CX X E) (I:Inv X pins σ H s) (r:aW vs us)
  (h:∀x b,H x=none->H b=none->b≠x->sp (.ref x::(vs++dvs)) (upd (upd H b (.own x)) x (.ins C b [])) (λv G=>v=.non/\Q (.ref x) G) E):
  wpAny (model X.prog X.w) X.A (call (.ref C) us) (EP X pins σ Q) X.xe s:=by
 have g:=h (s.heap.objs.size+1) s.heap.objs.size (I.hok.fresh (Nat.le_succ _)) (I.hok.fresh (zc _)) (zp (zY _));have c:=Inv.made (C:=C) I;have d:aW (V.ref (s.heap.objs.size+1)::(vs++dvs)) (Value.ref (s.heap.objs.size+1)::(us++ds)):=.cons rfl (r.append hd)
 have q:(Value.ref (s.heap.objs.size+1)::us++ds).length=ps.length:=by
  have e:=d.length;rw[F.len _ _ _ _ g] at e;exact e.symm
 refine wpAny_call (SJ (f:=f) I.kIn M.makes M.init (beq_iff_eq.mp M.fn) (codeAny_mono (F.run _ X.stack _ _ ⟨Value.ref (s.heap.objs.size+1)::us,[]⟩ (Value.ref (s.heap.objs.size+1)::(us++ds)) _ _ E (n.make C us [])
  (c.env0.make C us []) (hb _ (Value.ref (s.heap.objs.size+1)::us) c.kIn q) d g) λr i a=>?_))
 cases r with
 |error e=>exact l pins σ _ _ e i c a
 |ok fl =>
  cases fl with
  |ret u =>
   obtain⟨v,J,B,rv,y,j⟩:=c.after a;subst y;exact⟨rv,⟨V.ref (s.heap.objs.size+1),J,B,rfl,j⟩⟩
  |next=>exact False.elim a
  |brk=>exact False.elim a
  |cont=>exact False.elim a
theorem Tq(M:Mk X.K C f)(F:dq X.prog X.w X.K X.mg X.base CX k f fd ps sp)(d:bC (k+1) X.A)(i:Gl X x)(g:X.mg x=some (.ref C))(hb:Binds X.K fd ps ds)(hd:aW dvs ds)(c:j8 CX X E)
  (l:PA X (e::es) t) (b:(x == ("__debug__":Str))=false:=by decide) (j:starEach (e::es) X.env=(false,eval e X.env)::starEach es X.env:=by rfl) (a:(backTo pos (starEach es X.env)).any (·.1)=false:=by rfl):
  PE X (.Call (.Name x p) (e::es) [] pos) (xq C sp dvs E t):=by
 intro pins s σ H Q I h;refine wpAny_Call_Name_kw (qD I i g ?_ b);refine PySem.W.callWith_K (h₀:=X.base) I.ok.mod.kin M.kp (thn (l pos pins s σ H _ I h) λus s1 ⟨vs,H1,I1,r,q⟩=>⟨I1.kIn,?_⟩) j a;exact Hb M F d hb hd c I1 r q
theorem Tr(M:Mk X.K C f)(F:dq X.prog X.w X.K X.mg X.base CX k f fd ps sp)(c:bC (k+1) X.A)(g:Gl X x)(d:X.mg x=some (.ref C))(hb:Binds X.K fd ps ds)(hd:aW dvs ds)(b:j8 CX X E)
  (a:(x == ("__debug__":Str))=false:=by decide):PE X (.Call (.Name x p) [] [] pos) (xq C sp dvs E qK):=by
 intro pins s σ H Q I h;refine wpAny_Call_Name_kw (qD I g d ?_ a);exact PySem.W.callWith_K0 I.kIn M.kp (Hb (us:=[]) M F c hb hd b I .nil h)
end
section
variable {X:Cx}{CX:CXT}{k:Nat}{f C:Addr}{fd:FuncData}{ps ks:List Str}{sp:Sp}{E:XK}{x m:Str}{p pos apos kpos:Pos}{e o:Expr}{es:List Expr}{kws:List Keyword}{te ta:TE}{t tk:TA}{nm:Option Str}
structure QA8(K:PySem.W.Frag)(fd:FuncData)(ps ks:List Str)(g:List Value->List Value->List Value)(gV:List V->List V->List V):Prop where
 to:∀(s:Shared) (us ws:List Value),K.In s.heap->(g us ws).length=ps.length->BindsTo s fd ⟨us,ks.zip ws⟩ (ps.zip (g us ws))
 rel:∀{vs:List V}{us:List Value}{zs:List V}{ws:List Value},aW vs us->aW zs ws->aW (gV vs zs) (g us ws)
variable {g:List Value->List Value->List Value}{gV:List V->List V->List V}
end
structure bH(N P:List Str)(sc:Scope):Prop where
 kind:sc.kind=.function
 co:sc.isCoroutine=false
 gen:sc.isGenerator=false
 nd:N.Nodup
 pre:N.take P.length=P
 par:∀x∈P,sc.names.lookup x=some .local\/sc.names.lookup x=some .cell
 nofree:∀y∈sc.names,y.2≠.free
theorem Hc{kindOf:Str->Option NameKind}{x:Str}:∀{binds:List (Str×Value)}{m:Str->Option Value},(∀v,(x,v)∉binds)->bindL kindOf binds m x=m x
 | [],_,_=>rfl
 | (n,v)::r,m,h=>by
  unfold bindL;rw[Hc λw a=>h w (zn _ a)]
  split
  ·have:x≠n:=by rintro rfl;exact h v zg
   simp[this]
  ·rfl
theorem Hd{kindOf:Str->Option NameKind}{x:Str}:∀{binds:List (Str×Value)}{m:Str->Option Value},(∀v,(x,v)∉binds)->bindC kindOf binds m x=m x
 | [],_,_=>rfl
 | (n,v)::r,m,h=>by
  unfold bindC;rw[Hd λw a=>h w (zn _ a)]
  split
  ·rfl
  ·have:x≠n:=by rintro rfl;exact h v zg
   simp[this]
theorem Hf{kindOf:Str->Option NameKind}{x:Str}{v:Value}:∀{P:List Str}{vs:List Value}{i:Nat}{m:Str->Option Value},P.Nodup->P[i]?=some x->vs[i]?=some v->kindOf x=some .local ->
  bindL kindOf (P.zip vs) m x=some v
 | [],_,_,_,_,h,_,_=>by simp at h
 | _::_,[],_,_,_,_,h,_=>by simp at h
 |p::P,w::vs,0,m,nd,h1,h2,hk=>by
  simp at h1 h2;subst h1;subst h2
  show bindL kindOf ((p,w)::P.zip vs) m p=_;unfold bindL;rw[Hc λv a=>(List.nodup_cons.mp nd).1 (List.of_mem_zip a).1,if_pos hk];simp
 |p::P,w::vs,i+1,m,nd,h1,h2,hk=>by
  show bindL kindOf ((p,w)::P.zip vs) m x=_;unfold bindL;exact Hf (i:=i) (List.nodup_cons.mp nd).2 (by simpa using h1) (by simpa using h2) hk
theorem Hg{kindOf:Str->Option NameKind}{x:Str}{v:Value}:∀{P:List Str}{vs:List Value}{i:Nat}{m:Str->Option Value},P.Nodup->P[i]?=some x->vs[i]?=some v->kindOf x≠some .local ->
  bindC kindOf (P.zip vs) m x=some v
 | [],_,_,_,_,h,_,_=>by simp at h
 | _::_,[],_,_,_,_,h,_=>by simp at h
 |p::P,w::vs,0,m,nd,h1,h2,hk=>by
  simp at h1 h2;subst h1;subst h2
  show bindC kindOf ((p,w)::P.zip vs) m p=_;unfold bindC;rw[Hd λv a=>(List.nodup_cons.mp nd).1 (List.of_mem_zip a).1,if_neg hk];simp
 |p::P,w::vs,i+1,m,nd,h1,h2,hk=>by
  show bindC kindOf ((p,w)::P.zip vs) m x=_;unfold bindC;exact Hg (i:=i) (List.nodup_cons.mp nd).2 (by simpa using h1) (by simpa using h2) hk
def start(N:List Str)(vs:List V):St:=vs.map some++List.replicate (N.length - vs.length) none
def iG(CX:CXT)(P:Program)(w:World)(K:PySem.W.Frag)(mg:Str->Option Value)(base:Heap)(N:List Str)(qual:Str)(scope:Scope)(f:Addr)(cd:Value)(A:Around)(outer:List Env)(s:Shared)(H:Hp)(E:XK):Cx where
 prog:=P
 w:=w
 K:=K
 mg:=mg
 base:=base
 A:=A.deeper (envOfC qual scope s.heap.objs.size f cd)
 N:=N
 s₀:=s
 H₀:=H
 env:=envOfC qual scope s.heap.objs.size f cd
 outer:=outer
 stack:=envOfC qual scope s.heap.objs.size f cd::outer
 ex:=[]
 calm:=true
 fn:=λ_=>true
 pn:=[]
 xe:=λe s'=>wpAny (model P w) (A.deeper (envOfC qual scope s.heap.objs.size f cd)) (leaving (envOfC qual scope s.heap.objs.size f cd) e) (λ_ s''=>CX outer H s E e s'') (λe' s''=>CX outer H s E e' s'') s'
theorem Hh{a:Scope}{n:Nat}{x:Str}(h:a.names.lookup x=some .cell):∃c,(cellsFrom n a.names []).lookup x=some c:=by
 have q:=PySem.W.cellsFrom_some a.names n [] (.inl h);exact Option.isSome_iff_exists.mp q
theorem Tt{CX:CXT}{P:Program}{w:World}{K:PySem.W.Frag}{mg:Str->Option Value}{base:Heap}{N ps:List Str}{qual:Str}{scope:Scope}{f:Addr}{B:Value}{A:Around}{outer:List Env}{s C:Shared}{H:Hp}{E:XK}{us:List Value}{vs:List V}
  (S:bH N ps scope) (hd:A.handled=none) (d:jA P w K mg base A outer s H) (L:vs.length=ps.length) (r:aW vs us)
  (x:InCallC s s.heap.objs.size (bindL (envOfC qual scope s.heap.objs.size f B).kindOf (ps.zip us) λ_=>none) (cellsFrom (s.heap.objs.size+1) scope.names []) (bindC (envOfC qual scope s.heap.objs.size f B).kindOf (ps.zip us) λ_=>none) C):
  Inv (iG CX P w K mg base N qual scope f B A outer s H E) [] (start N vs) H C:=by
 have J:ps.length<=N.length:=by have:=congrArg List.length S.pre;rw[List.length_take] at this;omega
 obtain⟨h1,tk,rfl,G⟩:=x.done
 have j:∀b:Addr,b∉(iG CX P w K mg base N qual scope f B A outer s H E).ex:=λb z=>absurd (show b∈([]:List Addr) from z) (by simp)
 refine⟨⟨d.mod,S.kind,rfl,rfl,zc _,λy z c h1 h2=>?_,λy g=>?_,λy c _ h=>?_,λ_=>hd,Around.frames_deeper d.frames,.inr ⟨rfl,rfl⟩,λb z=>absurd z (j b),d.bs,d.bsz,λb _ _=>j b,λb z=>absurd z (j b),d.funs,d.frf⟩,
  rfl,d.bare,Un.kept G,⟨_,x.toInCall.ns,λi y v h1 h2 h3=>?_⟩,λy c h=>⟨_,x.cell y c h⟩,d.hok.fresh (zc _),λy c h=>?_,λp l=>absurd (show p∈([]:List (Addr×Obj)) from l) (by simp),d.hok.kept G,?_⟩
 ·exact name_of_addr x.apart (PySem.mem_of_lookup h1) (PySem.mem_of_lookup h2)
 ·have g:scope.names.lookup y=some .cell\/scope.names.lookup y=some .free:=g
  rcases g with g | g
  ·exact Hh g
  ·exact absurd rfl (S.nofree _ (PySem.mem_of_lookup g))
 ·exact Nat.le_of_lt (x.above y c (PySem.mem_of_lookup h))
 ·have t:i<vs.length:=by
   unfold start at h2
   by_cases t:i<vs.length
   ·exact t
   ·rw[zK (by simpa using t)] at h2;rw[List.getElem?_replicate] at h2
    split at h2<;>cases h2
  have I:vs[i]?=some v:=by
   unfold start at h2;rw[zC (by simpa using t),zA] at h2
   cases e:vs[i]? with
   |none=>rw[e] at h2;cases h2
   |some a=>rw[e] at h2;cases h2;rfl
  obtain⟨u,F,rv⟩:=r.get I
  have l:ps[i]?=some y:=by
   rw[<-S.pre,List.getElem?_take_of_lt (by omega)];exact h1
  have m:ps.Nodup:=by rw[<-S.pre];exact S.nd.sublist (List.take_sublist _ _)
  refine⟨u,rv,?_⟩
  rcases S.par y (zH l) with k | k
  ·exact .inl ⟨k,Hf m l F k⟩
  ·obtain⟨c,e⟩:=Hh (n:=s.heap.objs.size+1) k;refine .inr ⟨.inl k,c,e,?_⟩;have q:=x.cell y c e;rw[Hg m l F (by show scope.names.lookup y≠_;rw[k];decide)] at q;exact q
 ·exact d.hok.fresh (Nat.le_of_lt (x.above y c (PySem.mem_of_lookup h)))
 ·unfold start;show _=N.length;rw[zu,ze,List.length_replicate];omega
theorem Tu{CX:CXT}{P:Program}{w:World}{K:PySem.W.Frag}{mg:Str->Option Value}{base:Heap}{k:Nat}{f:Addr}{name qual:Str}{params:Arguments}{body:List Stmt}{scope:Scope}{T kV B pm a ct oc:Value}{U Z:Option Addr}
  {G:Array (Option Value)}{N ps:List Str}{sp:Sp} (lk:K.lookup f=some ⟨oc,Z,.func (PySem.W.fnOf name qual params body scope T kV B pm U a ct),G⟩) (O:PySem.W.codeIn K a qual=true) (S:bH N ps scope)
  (len:∀vs H Q E,sp vs H Q E->vs.length=ps.length)
  (h:∀(A:Around) (outer:List Env) (s:Shared) (H:Hp) (vs:List V) (Q:VK) (E:XK),bC k (A.deeper (envOfC qual scope s.heap.objs.size f a))->sp vs H Q E ->
   ∃t,PSs (iG CX P w K mg base N qual scope f a A outer s H E) body t/\t {nx:=λ_ d=>Q .non d,rt:=Q} (start N vs) H):
  dq P w K mg base CX (k+1) f (PySem.W.fnOf name qual params body scope T kV B pm U a ct) ps sp:=by
 refine⟨len,λA outer s H args Y vs Q E F j hb r l=>?_⟩;have hl:=len _ _ _ _ l
 have X:K.In s.heap:=j.mod.kin.keeps λb o e=>(j.bs b o e).1
 have L:s.heap.NoLimit:=j.mod.nolimit.keeps λb o e=>(j.bs b o e).1
 have g:∀y∈ps.zip Y,scope.names.lookup y.1=some .local\/(scope.names.lookup y.1=some .cell/\((cellsFrom (s.heap.objs.size+1) scope.names []).lookup y.1).isSome=true):=λ⟨n,v⟩ hy=>by
  rcases S.par n (List.of_mem_zip hy).1 with q | q
  ·exact .inl q
  ·exact .inr ⟨q,PySem.W.cellsFrom_some _ _ _ (.inl q)⟩
 refine codeAny_call_function F.depth (X _ _ lk) rfl S.co S.gen rfl (PySem.W.codeRec_of X O) (hb _ _ _ _ ?_)
 refine wpAny_newFunctionEnv_cells S.kind g λenv he R x=>?_
 subst he;refine⟨L.keeps x.toInCall.keep,codeAny_func ?_⟩;obtain⟨t,ht,hq⟩:=h A outer s H vs Q E (F.deeper _) l;have I:Inv (iG CX P w K mg base N qual scope f a A outer s H E) [] (start N vs) H R:=Tt S F.hd j hl r x
 refine zN (ht [] R (start N vs) H _ I hq) (λfl C i=>?_) λe C i=>i
 have m:∀{c:St}{d:Hp}{v:V}{u:Value},Inv (iG CX P w K mg base N qual scope f a A outer s H E) [] c d C->RelV v u->Q v d->CE outer P w H s Q u C :=
  λ{c d v u} J rv q=>⟨v,d,J.os,J.bare,J.base,J.hok,rv,q⟩
 cases fl with
 |ret u =>
  obtain⟨v,c,d,J,rv,q⟩:=i;exact m J rv q
 |next =>
  obtain⟨c,d,J,q⟩:=i;exact m (v:=V.non) (u:=Value.none) J rfl q
 |brk =>
  obtain⟨_,_,_,q⟩:=i;exact False.elim q
 |cont =>
  obtain⟨_,_,_,q⟩:=i;exact False.elim q
section
variable {X:Cx}{x:Str}{p pos:Pos}{e:Expr}{es:List Expr}{t:TA}{id T:String}{r:List V->Hp->VK->Prop}
def tCB(r:List V->Hp->VK->Prop)(t:TA):TE:=λσ H Q=>t σ H λa b=>r a b Q
theorem xu(i:j7 X (.builtin id) r)(f:Gl X x)(d:X.mg x=none)(hv:bootBuiltins x=some (.builtin id))(j:PA X (e::es) t)(c:x≠"__name__":=by decide)(b:(x == ("__debug__":Str))=false:=by decide)
  (g:starEach (e::es) X.env=(false,eval e X.env)::starEach es X.env:=by rfl) (a:(backTo pos (starEach es X.env)).any (·.1)=false:=by rfl):PE X (.Call (.Name x p) (e::es) [] pos) (tCB r t):=by
 intro pins s σ H Q I h;refine wpAny_Call_Name_kw (j6 I f d hv ?_ c b);exact PyProof.Rows.callWith_builtin1 (thn (j pos pins s σ H _ I h) λus s1 ⟨vs,H1,I1,r1,q1⟩=>i pins s1 σ H1 vs us Q I1 r1 q1) g a
theorem Hi(i:j7 X (.type T) r)(f:Gl X x)(d:X.mg x=none)(hv:bootBuiltins x=some (.type T))(j:PA X (e::es) t)(c:x≠"__name__":=by decide)(b:(x == ("__debug__":Str))=false:=by decide)
  (g:starEach (e::es) X.env=(false,eval e X.env)::starEach es X.env:=by rfl) (a:(backTo pos (starEach es X.env)).any (·.1)=false:=by rfl):PE X (.Call (.Name x p) (e::es) [] pos) (tCB r t):=by
 intro pins s σ H Q I h;refine wpAny_Call_Name_kw (j6 I f d hv ?_ c b);exact PyProof.Rows.callWith_type1 (thn (j pos pins s σ H _ I h) λus s1 ⟨vs,H1,I1,r1,q1⟩=>i pins s1 σ H1 vs us Q I1 r1 q1) g a
end
end L2
namespace HT
open PySem PyProof.Rows
section
open PySem.SeqAt
open PySem.AutoSeq1 (wpAny_loadPart')
open PySem.MeetsSeq PySem.MeetsSeq2 PySem.MeetsSeq3
end
section
variable {prog:Program}{w:World}{A:Around}{E:Value->Shared->Prop}{s:Shared}
theorem cat_tup{t b:Addr}{vs a:List Value}{Q:Value->Shared->Prop}(r:IsTup s.heap t vs.toArray)(hb:IsTup s.heap b a.toArray)(hv:vs≠[])
  (h1:a=[]->Q (.ref t) s) (h2:a≠[]->Q (.ref s.heap.objs.size) {s with heap:=s.heap.push {cls:=.type "tuple",data:=.seq (vs++a).toArray}})
  (hsz:vs.length+a.length<=sizeLine):wpAny (model prog w) A (binaryOp .Add (.ref t) (.ref b)) Q E s:=by
 obtain⟨⟨cls,m,data,sl⟩,j,l,n,hd⟩:=id r;obtain⟨⟨q,h,data2,d⟩,c,g,k,f⟩:=id hb;simp only at l hd g f;subst l hd g f
 have e:vs.toArray++a.toArray=(vs++a).toArray:=by simp
 by_cases i:a=[]
 ·exact concat_meets ⟨_,j,rfl⟩ ⟨_,c,rfl⟩ noFill_tuple_add seq_tuple_add PySem.F.slot_tuple_add PySem.F.entry_tuple_add (PySem.F.args_tuple_add_2 _ _)
   (tuple_addW1 t b vs.toArray a.toArray n k m h sl d (by simpa using hv) (by simp[i])) ⟨j,c,h1 i⟩
 ·refine concat_meets ⟨_,j,rfl⟩ ⟨_,c,rfl⟩ noFill_tuple_add seq_tuple_add PySem.F.slot_tuple_add PySem.F.entry_tuple_add (PySem.F.args_tuple_add_2 _ _)
   (tuple_addW2 t b vs.toArray a.toArray n k m h sl d (by simpa using hv) (by simpa using i) (by rw[zy,zy];exact hsz)) ⟨j,c,?_⟩
  rw[e];exact h2 i
def sIx(n d:Nat):Option Int->Nat
 |none=>d
 |some v=>if v<0 then(v+(n:Int)).toNat else min v.toNat n
theorem sIx_none(n d:Nat):sIx n d none=d:=rfl
theorem sIx_nat(n d k:Nat):sIx n d (some (k:Int))=min k n:=by
 show(if(k:Int)<0 then((k:Int)+(n:Int)).toNat else min (k:Int).toNat n)=min k n;rw[if_neg (by omega),Int.toNat_natCast]
theorem sIx_le(n d:Nat)(hd:d<=n)(o:Option Int):sIx n d o<=n:=by
 cases o with
 |none=>exact hd
 |some v =>
  show(if v<0 then(v+(n:Int)).toNat else min v.toNat n)<=n
  by_cases a:v<0
  ·rw[if_pos a];omega
  ·rw[if_neg a];exact Nat.min_le_right _ _
theorem Hj(v:Int)(n d:Nat):(if v<0 then max (v+(n:Int)) 0 else min v (n:Int))=((sIx n d (some v):Nat):Int):=by
 show(if v<0 then max (v+(n:Int)) 0 else min v (n:Int))=(((if v<0 then(v+(n:Int)).toNat else min v.toNat n):Nat):Int)
 by_cases a:v<0
 ·simp only[if_pos a];omega
 ·simp only[if_neg a];omega
theorem Tv(lo a:Option Int)(n:Nat):Builtin.Slice.sliceAdjust lo a 1 (n:Int)=(((sIx n 0 lo:Nat):Int),((sIx n n a:Nat):Int)):=by
 have h1:¬((1:Int)<0):=by omega
 unfold Builtin.Slice.sliceAdjust;simp only[h1,if_false];refine Prod.ext ?_ ?_
 ·cases lo with
  |none=>rfl
  |some v=>exact Hj v n 0
 ·cases a with
  |none=>rfl
  |some v=>exact Hj v n n
theorem Tw(i j:Nat):Builtin.Slice.slicePlaces (i:Int) (j:Int) 1=j - i:=by
 unfold Builtin.Slice.slicePlaces
 have h1:(1:Int)>0:=by omega
 simp only[h1,if_true,Int.ediv_one]
 split<;>omega
theorem Hk{v:Value}{o:Option Int}{Q:Option Int->Shared->Prop}(p:IsPart v o)(h:Q o s):wpAny (model prog w) A (Builtin.Slice.slicePartIndex v) Q E s:=by
 cases p with
 |none=>exact slicePart_none h
 |int i t=>exact slicePart_int h
theorem sliceApplied_gen{sl:Addr}{vl d:Value}{lo a:Option Int}{n:Nat}{Q:Int×Int×Nat->Shared->Prop}(hs:s.heap.IsSliceOf sl vl d .none)(pl:IsPart vl lo)(f:IsPart d a)
  (h:Q (((sIx n 0 lo:Nat):Int),1,sIx n n a - sIx n 0 lo) s):wpAny (model prog w) A (Builtin.Slice.sliceApplied (.ref sl) (pure (n:Int))) Q E s:=by
 obtain⟨os,b,g,c⟩:=id hs;unfold Builtin.Slice.sliceApplied Builtin.Slice.sliceFields;refine za (za (wpAny_field b c (x:=vl) rfl (za (wpAny_field b c (x:=d) rfl (za (wpAny_field b c (x:=.none) rfl (zb ?_)))))));refine za (slicePart_none ?_);show wpAny _ _ (if((1:Int) == 0)=true then _ else _) _ _ s;rw[if_neg (by decide)];refine za (Hk pl (za (Hk f (za (zb ?_)))));show wpAny _ _ (match Builtin.Slice.sliceAdjust lo a 1 (n:Int) with | (lo,a)=>pure (lo,(1:Int),Builtin.Slice.slicePlaces lo a 1)) _ _ s;rw[Tv lo a n];show wpAny _ _ (pure (((sIx n 0 lo:Nat):Int),(1:Int),Builtin.Slice.slicePlaces ((sIx n 0 lo:Nat):Int) ((sIx n n a:Nat):Int) 1)) _ _ s
 rw[Tw];exact zb h
theorem Tz(xs:Array Value)(i k:Nat):((List.range k).filterMap λ(m:Nat)=>xs[((i:Int)+(m:Int) * 1).toNat]?).toArray=((xs.toList.drop i).take k).toArray:=by
 have e:(λ(m:Nat)=>xs[((i:Int)+(m:Int) * 1).toNat]?)=λm=>xs[i+m]?:=by
  funext m
  have:((i:Int)+(m:Int) * 1).toNat=i+m:=by omega
  rw[this]
 rw[e]
 have:=pick_run xs i k
 rw[List.filterMap_map] at this
 have a:((λx=>xs[x]?) ∘ λx=>i+x)=λm=>xs[i+m]?:=rfl
 rw[a] at this;rw[this]
theorem getItem_tuple_cut{t sl:Addr}{items:Array Value}{vl j:Value}{lo b:Option Int}{Q:Value->Shared->Prop}(c:IsTup s.heap t items)(hs:s.heap.IsSliceOf sl vl j .none)(pl:IsPart vl lo)(k:IsPart j b)
  (l:¬(sIx items.size 0 lo=0/\sIx items.size items.size b=items.size))
  (h:Q (.ref s.heap.objs.size) {s with heap:=s.heap.push {cls:=.type "tuple",data:=.seq ((items.toList.drop (sIx items.size 0 lo)).take (sIx items.size items.size b - sIx items.size 0 lo)).toArray}})
  (hsz:items.size<=sizeLine):wpAny (model prog w) A (getItem (.ref t) (.ref sl)) Q E s:=by
 have a:sizeOk (.seq ((items.toList.drop (sIx items.size 0 lo)).take (sIx items.size items.size b - sIx items.size 0 lo)).toArray):=by
  show((items.toList.drop (sIx items.size 0 lo)).take (sIx items.size items.size b - sIx items.size 0 lo)).toArray.size<=sizeLine;rw[zy,List.length_take,List.length_drop,Array.length_toList];omega
 have x:sIx items.size items.size b<=items.size:=sIx_le _ _ (zc _) b;obtain⟨os,d,g,n⟩:=id hs;have i:s.TypeIs (.ref sl) "slice":=⟨os,d,g⟩;unfold getItem
 try with_reducible refine zP ?_
 first | refine za (zb ?_) | skip
 refine za (wpAny_sequenceKey c.typeIs (by decide) ?_)
 refine za (wpAny_callSpecial?_slot (name:=Str.ofString "__getitem__") c.typeIs PyProof.Rows.slot_tuple_getitem
  (wpAny_call_entry PyProof.Rows.slot_tuple_getitem c.typeIs entry_tuple_getitem ?_ (args_tuple_getitem _ _)))
 show wpAny _ _ (Builtin.Tuple.tupleItemsOf (.ref t) >>= _) _ _ s;refine za (tupleItemsOf_ c ?_);refine za (wpAny_typeOf i ?_);rw[if_pos (by decide)];refine za (sliceApplied_gen hs pl k ?_)
 have f:¬((((sIx items.size 0 lo:Nat):Int) == 0&&(1:Int) == 1&&(sIx items.size items.size b - sIx items.size 0 lo) == items.size)=true):=by
  intro q;rw[zr,zr] at q;have u:((sIx items.size 0 lo:Nat):Int)=0:=eq_of_beq q.1.1;have r:sIx items.size items.size b - sIx items.size 0 lo=items.size:=eq_of_beq q.2;exact l ⟨by omega,by omega⟩
 show wpAny _ _ (if(((sIx items.size 0 lo:Nat):Int) == 0&&(1:Int) == 1&&(sIx items.size items.size b - sIx items.size 0 lo) == items.size)=true then _ else _) _ _ s;rw[if_neg f,Tz]
 first
  | exact za (m:=Builtin.Tuple.tupleExact _) (wpAny_newObj_type (zb ⟨_,rfl,zb h⟩) a)
  | exact za (m:=Builtin.Tuple.tupleExact _) (wpAny_newObj_type (za (zb (zb ⟨_,rfl,zb h⟩))) a)
  | exact za (za (m:=Builtin.Tuple.tupleExact _) (wpAny_newObj_type (zb (zb ⟨_,rfl,zb h⟩)) a))
  | exact za (za (m:=Builtin.Tuple.tupleExact _) (wpAny_newObj_type (zb ⟨_,rfl,zb h⟩) a))
end
end HT
namespace L2
open PySem PySem.Spec PyProof.Rows
abbrev TO:=St->Hp->(Option Int->Hp->Prop)->Prop
def PO(X:Cx)(e:Option Expr)(t:TO):Prop :=
 ∀(pins:List (Addr×Obj)) (s:Shared) (σ:St) (H:Hp) (Q:Option Int->Hp->Prop),Inv X pins σ H s->t σ H Q ->
  wpAny (model X.prog X.w) X.A (evalPart e X.env) (λu b=>∃o a,Inv X pins σ a b/\IsPart u o/\Q o a) X.xe s
def TF:TO:=λ_ H Q=>Q none H
def TJ(t:TE):TO:=λσ H Q=>t σ H λx a=>∃i,x=.int i/\Q (some i) a
section
variable {X:Cx}{e:Expr}{te:TE}{lo hi:Option Expr}{tl th:TO}{pos p2:Pos}
theorem TQ:PO X none TF:=by
 intro pins s σ H Q I h;rw[evalPart_none];exact zb ⟨none,H,I,.none,h⟩
theorem TV(h:PE X e te):PO X (some e) (TJ te):=by
 intro pins s σ H Q I a;rw[evalPart_some]
 refine thn (h pins s σ H _ I a) λu s1 ⟨x,H1,I1,r1,q1⟩=>?_
 obtain⟨i,rfl,q⟩:=q1;obtain⟨t,rfl⟩:=r1;exact⟨some i,H1,I1,.int i t,q⟩
def SlR(X:Cx)(r:V->Option Int->Option Int->Hp->VK->Prop):Prop :=
 ∀(pins:List (Addr×Obj)) (s:Shared) (σ:St) (H:Hp) (x:V) (v vl a:Value) (lo hi:Option Int) (sl:Addr) (Q:VK),Inv X pins σ H s->RelV x v->s.heap.IsSliceOf sl vl a .none->IsPart vl lo->IsPart a hi->r x lo hi H Q ->
  ∃T b,typeLookup (.type T) "__getitem__" = pure (some (.builtin b))/\s.TypeIs v T/\wpAny (model X.prog X.w) X.A (getItem v (.ref sl)) (EP X pins σ Q) X.xe s
def tSl(r:V->Option Int->Option Int->Hp->VK->Prop)(te:TE)(tl th:TO):TE:=λσ H Q=>te σ H λx c=>tl σ c λl b=>th σ b λu a=>r x l u a Q
theorem TX{r:V->Option Int->Option Int->Hp->VK->Prop}(d:SlR X r)(i:PE X e te)(f:PO X lo tl)(a:PO X hi th):PE X (.Subscript e (.Slice lo hi none p2) pos) (tSl r te tl th):=by
 intro pins s σ H Q I h;refine Subscript_ (thn (i pins s σ H _ I h) λv s1 ⟨x,H1,I1,r1,q1⟩=>?_);refine wpAny_Slice (thn (f pins s1 σ H1 _ I1 q1) λvl s2 ⟨l,H2,I2,pl,q2⟩=>thn (a pins s2 σ H2 _ I2 q2) λvu s3 ⟨u,H3,I3,pu,q3⟩=>?_);rw[evalPart_none];refine zb ?_
 have k:Inv X pins σ H3 {s3 with heap:=s3.heap.push {cls:=.type "slice",data:=.fields #[vl,vu,.none]}}:=I3.kept (t':=s3.toks) λb ob q=>zm _ q
 obtain⟨T,m,j,c,g⟩:=d pins {s3 with heap:=s3.heap.push {cls:=.type "slice",data:=.fields #[vl,vu,.none]}} σ H3 x v vl vu l u s3.heap.objs.size Q k r1 (Heap.IsSliceOf.new ..) pl pu q3;show wpAny (model X.prog X.w) X.A (subscriptTail e (.Slice lo hi none p2) v (.ref s3.heap.objs.size)) (EP X pins σ Q) X.xe {s3 with heap:=s3.heap.push {cls:=.type "slice",data:=.fields #[vl,vu,.none]}};exact tail_any (ops:=[.ref s3.heap.objs.size,v]) c j g (by with_unfolding_all rfl)
def j9(xs:List V)(lo hi:Option Int):List V:=(xs.drop (HT.sIx xs.length 0 lo)).take (HT.sIx xs.length xs.length hi - HT.sIx xs.length 0 lo)
theorem Hl(xs:List V)(lo hi:Option Int):(j9 xs lo hi).length<=xs.length:=by
 unfold j9;rw[List.length_take,List.length_drop];omega
def TY(K:PySem.W.Frag):V->Option Int->Option Int->Hp->VK->Prop:=λx lo hi H Q=>∃a b,x=.ref a/\SqT K H a b /\
 ¬(HT.sIx b.length 0 lo=0/\HT.sIx b.length b.length hi=b.length)/\∀p,H p=none->Q (.ref p) (upd H p (.tup (j9 b lo hi)))
theorem T3:SlR X (TY X.K):=by
 intro pins s σ H x v vl t lo hi sl Q I i n k j h;obtain⟨a,c,rfl,l,m,q⟩:=h;cases i;obtain⟨d,r,g,f⟩:=I.tuple l
 have hlen:d.toArray.size=c.length:=by rw[zy];exact r.length.symm
 refine⟨"tuple",_,PyProof.Rows.slot_tuple_getitem.lookup,g.typeIs,?_⟩;refine HT.getItem_tuple_cut g n k j (by rw[hlen];exact m) ?_ (by rw[hlen];exact f);rw[hlen];refine⟨.ref s.heap.objs.size,_,I.laid (t':=s.toks) (o:=.tup (j9 c lo hi)) (λb ob q=>zm _ q) (zc _) ?_,rfl,q _ (I.hok.fresh (zc _))⟩;exact⟨zG (Hl c lo hi) f,_,(r.drop (HT.sIx c.length 0 lo)).take (HT.sIx c.length c.length hi - HT.sIx c.length 0 lo),IsTup.new _ _⟩
def T4(K:PySem.W.Frag):R2:=λx y H Q=>∃a b d c,x=.ref a/\y=.ref b/\SqT K H a d/\SqT K H b c/\d≠[]/\d.length+c.length<=sizeLine /\
 (c=[]->Q (.ref a) H)/\(c≠[]->∀p,H p=none->Q (.ref p) (upd H p (.tup (d++c))))
theorem aW.nil_iff{xs:List V}{us:List Value}(r:aW xs us):us=[]↔xs=[]:=by
 cases r with
 |nil=>simp
 |cons _ _=>simp
theorem T5:OpR X (binaryOp .Add) (T4 X.K):=by
 intro pins s σ H x y v u Q I l k h;obtain⟨a,b,j,i,rfl,rfl,C,B,t,f,n,m⟩:=h;cases l;cases k;obtain⟨E,d,r,_⟩:=I.tuple C;obtain⟨g,c,p2,_⟩:=I.tuple B;refine HT.cat_tup r p2 (λz=>t (d.nil_iff.mp z)) (λz=>⟨.ref a,H,I,rfl,n (c.nil_iff.mp z)⟩) (λz=>?_) (by rw[<-d.length,<-c.length];exact f);refine⟨.ref s.heap.objs.size,_,I.laid (t':=s.toks) (o:=.tup (j++i)) (λb ob q=>zm _ q) (zc _) ?_,rfl,m (λw=>z (c.nil_iff.mpr w)) _ (I.hok.fresh (zc _))⟩;exact⟨by rw[zu];exact f,_,d.append c,IsTup.new _ _⟩
end
def ixN(n:Nat)(i:Int):Option Nat:=if 0<=i then(if i<n then some i.toNat else none) else if -(n:Int)<=i then some (i+n).toNat else none
def atI{α:Type}(xs:List α)(i:Int):Option α:=(ixN xs.length i).bind λj=>xs[j]?
theorem T6{n:Nat}{i:Int}{j:Nat}(h:ixN n i=some j):seqIndex? i n=some j/\j<n/\-(n:Int)<=i/\i<n:=by
 unfold ixN at h
 by_cases h0:0<=i
 ·rw[if_pos h0] at h
  by_cases h1:i<n
  ·rw[if_pos h1] at h;have e:i.toNat=j:=zD h;exact⟨by rw[seqIndex_of h0 h1,e],by omega,by omega,h1⟩
  ·rw[if_neg h1] at h;cases h
 ·rw[if_neg h0] at h
  by_cases h1:-(n:Int)<=i
  ·rw[if_pos h1] at h;have e:(i+n).toNat=j:=zD h;exact⟨by rw[seqIndex_neg (by omega) h1,e],by omega,h1,by omega⟩
  ·rw[if_neg h1] at h;cases h
theorem xx{α:Type}{xs:List α}{i:Int}{v:α}(h:atI xs i=some v):∃j,seqIndex? i xs.length=some j/\xs[j]?=some v/\j<xs.length/\-(xs.length:Int)<=i/\i<xs.length:=by
 unfold atI at h
 cases e:ixN xs.length i with
 |none=>rw[e] at h;cases h
 |some j =>
  rw[e] at h;obtain⟨h1,h2,h3,h4⟩:=T6 e;exact⟨j,h1,h,h2,h3,h4⟩
def xA(b:Expr):Prop:=∀o i,subscripted b false o i=operate [o,i] (getItem o i)
def IxR(X:Cx)(r:R2):Prop :=
 ∀(value slice:Expr) (pins:List (Addr×Obj)) (s:Shared) (σ:St) (H:Hp) (x y:V) (v u:Value) (Q:VK),Inv X pins σ H s->RelV x v->RelV y u->r x y H Q ->
  subscripted slice false v u=operate [v,u] (getItem v u)->wpAny (model X.prog X.w) X.A (subscriptTail value slice v u) (EP X pins σ Q) X.xe s
def MtR(X:Cx)(c:String)(r:V->List V->Hp->VK->Prop):Prop :=
 ∀(pins:List (Addr×Obj)) (s:Shared) (σ:St) (H:Hp) (x:V) (a:List V) (v:Value) (b:List Value) (Q:VK),Inv X pins σ H s->RelV x v->aW a b->r x a H Q ->
  wpAny (model X.prog X.w) X.A (call (.builtin c) (v::b)) (EP X pins σ Q) X.xe s
section
variable {X:Cx}{a b:Expr}{ta tb:TE}{pos:Pos}
theorem T7{r:R2}(g:IxR X r)(i:PE X a ta)(hb:PE X b tb)(hs:xA b):PE X (.Subscript a b pos) (tOp r ta tb):=by
 intro pins s σ H Q I h;exact Subscript_ (wW i hb I h λv u c x y k j f d q=>g a b pins c σ k x y v u Q j f d q (hs _ _))
def T8(K:PySem.W.Frag):R2:=λx y H Q=>∃p c i v,x=.ref p/\y=.int i/\SqL K H p c/\atI c i=some v/\Q v H
def T9(K:PySem.W.Frag):R2:=λx y H Q=>∃p c i v,x=.ref p/\y=.int i/\SqT K H p c/\atI c i=some v/\Q v H
def Ua:R2:=λx y H Q=>∃z i c,x=.str z/\y=.int i/\z.length<=sizeLine/\atI z.cps.toList i=some c/\Q (.str ⟨#[c]⟩) H
theorem Ub:IxR X (T8 X.K):=by
 intro value slice pins s σ H x y v u Q I C B h l;obtain⟨p,L,i,z,rfl,rfl,E,G,q⟩:=h;cases C;obtain⟨t,rfl⟩:=B;obtain⟨k,r,d,O⟩:=I.list E;obtain⟨j,h1,h2,h3,h4,J⟩:=xx G;obtain⟨w,m,g⟩:=r.get h2;have F:=r.length;have P:=qH;have c:EP X pins σ Q w s:=⟨z,H,I,g,q⟩
 by_cases h0:0<=i
 ·have f:i.toNat=j:=by
   rw[seqIndex_of h0 J] at h1;exact zD h1
  exact item_listR d.isList h0 (by omega) (by rw[f];simpa using m) c l
 ·have f:(i+(k.toArray.size:Int)).toNat=j:=by
   rw[seqIndex_neg (by omega) h4] at h1;rw[zy,<-F];exact zD h1
  exact subscriptTail_builtinR (x:=w) d.isList.typeIs slot_list_getitem.lookup
   (wpAny_getItem_list_neg (Q:=λr n=>r=w/\EP X pins σ Q r n) d.isList (by omega) (by rw[zy]<;>omega) (by omega) (by rw[f];simpa using m) ⟨rfl,c⟩) l
theorem Uc:IxR X (T9 X.K):=by
 intro value slice pins s σ H x y v u Q I l k h m;obtain⟨p,G,i,z,rfl,rfl,n,C,q⟩:=h;cases l;obtain⟨t,rfl⟩:=k;obtain⟨F,r,f,J⟩:=I.tuple n;obtain⟨j,h1,h2,h3,h4,O⟩:=xx C;obtain⟨w,E,c⟩:=r.get h2;have B:=r.length;have L:=qH;have d:EP X pins σ Q w s:=⟨z,H,I,c,q⟩;exact subscriptTail_builtinR (x:=w) f.typeIs slot_tuple_getitem.lookup
  (getItem_tuple (j:=j) (Q:=λr g=>r=w/\EP X pins σ Q r g) f (by omega) (by omega) (by rw[zy,<-B];exact h1) (by simpa using E) ⟨rfl,d⟩) m
theorem qM:IxR X Ua:=by
 intro value slice pins s σ H x y v u Q I f d h g;obtain⟨z,i,c,rfl,rfl,C,l,q⟩:=h;obtain⟨t,rfl⟩:=f;obtain⟨B,rfl⟩:=d;obtain⟨j,h1,h2,h3,h4,m⟩:=xx l
 have k:z.cps.toList.length=z.length:=by simp[Str.length]
 rw[k] at h1 h4 m;have E:=qH
 exact tail_any (typeIs_str s z t) slot_str_getitem.lookup (getItem_str (c:=c) (by
  have r:decide (i < -(2 ^ 63:Int))=false:=zd (by omega);have n:decide (i>=2 ^ 63)=false:=zd (by omega)
  rw[r,n,Bool.or_false]) (by rw[h1];simpa using h2) ⟨.str ⟨#[c]⟩,H,I.tok _,⟨_,rfl⟩,q⟩) g
theorem Hm(lo c:Option Int)(n:Nat):(sliceBounds lo c none n).1=((HT.sIx n 0 lo:Nat):Int)/\(sliceBounds lo c none n).2.1=((HT.sIx n n c:Nat):Int)/\(sliceBounds lo c none n).2.2=1:=by
 refine⟨?_,?_,rfl⟩
 ·cases lo with
  |none=>simp[sliceBounds,HT.sIx]
  |some i =>
   simp only[sliceBounds,HT.sIx,Option.getD_none,show(1:Int)>0 by decide,if_true]
   by_cases h:i<0
   ·simp only[h,if_true]<;>omega
   ·simp only[h,if_false]<;>omega
 ·cases c with
  |none=>simp[sliceBounds,HT.sIx]
  |some i =>
   simp only[sliceBounds,HT.sIx,Option.getD_none,show(1:Int)>0 by decide,if_true]
   by_cases h:i<0
   ·simp only[h,if_true]<;>omega
   ·simp only[h,if_false]<;>omega
theorem Ud(its:List Value)(lo c:Option Int):slicePick its.toArray lo c none=((its.drop (HT.sIx its.length 0 lo)).take (HT.sIx its.length its.length c - HT.sIx its.length 0 lo)).toArray:=by
 obtain⟨h1,h2,h3⟩:=Hm lo c its.toArray.size;unfold slicePick;rw[h1,h2,h3]
 simp only[sliceRange_one,pick_run,zy]<;>rfl
def Ue(K:PySem.W.Frag):V->Option Int->Option Int->Hp->VK->Prop:=λx lo d H Q=>∃a c,x=.ref a/\SqL K H a c/\∀p,H p=none->Q (.ref p) (upd H p (.lst (j9 c lo d)))
theorem Ug:SlR X (Ue X.K):=by
 intro pins s σ H x v vl t lo d sl Q I g m j i h;obtain⟨a,c,rfl,l,q⟩:=h;cases g;obtain⟨n,r,f,k⟩:=I.list l;have hlen:=r.length;refine⟨"list",_,slot_list_getitem.lookup,f.isList.typeIs,?_⟩;refine wpAny_getItem_list_slice f.isList m j i .none (by simp) ?_ (by rw[zy]<;>omega);rw[Ud,<-hlen];refine⟨.ref s.heap.objs.size,_,I.laid (t':=s.toks) (o:=.lst (j9 c lo d)) (λb ob q=>zm _ q) (zc _) ?_,rfl,q _ (I.hok.fresh (zc _))⟩;exact⟨zG (Hl c lo d) k,_,0,(r.drop (HT.sIx c.length 0 lo)).take (HT.sIx c.length c.length d - HT.sIx c.length 0 lo),zw _ rfl⟩
def jB:V->Bool
 | .non=>true
 | .bl _=>true
 | .int _=>true
 | .str _=>true
 | _=>false
def eqV:V->V->Bool
 | .non,.non=>true
 | .bl a,.bl b=>a == b
 | .bl a,.int b=>(if a then 1 else 0) == b
 | .int a,.bl b=>a == (if b then 1 else 0)
 | .int a,.int b=>a == b
 | .str a,.str b=>a == b
 | _,_=>false
theorem Uh{A:Around}{s:Shared}{y x:V}{u v:Value}(f:RelV y u)(c:RelV x v)(h:jB y=true)(g:jB x=true):SeqAt.EqAt A s u v (eqV y x):=by
 cases y with
 |non =>
  cases f
  cases x with
  |non=>cases c;exact SeqAt.EqAt.same _
  |bl b=>cases c;exact SeqAt.EqAt.none_bool b
  |int b=>obtain⟨t,rfl⟩:=c;exact SeqAt.EqAt.none_int b t
  |str b=>obtain⟨t,rfl⟩:=c;exact SeqAt.EqAt.none_str b t
  | _=>exact absurd (show false=true from g) zf
 |bl a =>
  cases f
  cases x with
  |non=>cases c;exact SeqAt.EqAt.bool_none a
  |bl b=>cases c;exact SeqAt.EqAt.bool_bool a b
  |int b=>obtain⟨t,rfl⟩:=c;exact SeqAt.EqAt.bool_int a b t
  |str b=>obtain⟨t,rfl⟩:=c;exact SeqAt.EqAt.bool_str a b t
  | _=>exact absurd (show false=true from g) zf
 |int a =>
  obtain⟨d,rfl⟩:=f
  cases x with
  |non=>cases c;exact SeqAt.EqAt.int_none a d
  |bl b=>cases c;exact SeqAt.EqAt.int_bool a d b
  |int b=>obtain⟨t,rfl⟩:=c;exact SeqAt.EqAt.int_int a d b t
  |str b=>obtain⟨t,rfl⟩:=c;exact SeqAt.EqAt.int_str a d b t
  | _=>exact absurd (show false=true from g) zf
 |str a =>
  obtain⟨d,rfl⟩:=f
  cases x with
  |non=>cases c;exact SeqAt.EqAt.str_none a d
  |bl b=>cases c;exact SeqAt.EqAt.str_bool a d b
  |int b=>obtain⟨t,rfl⟩:=c;exact SeqAt.EqAt.str_int a d b t
  |str b=>obtain⟨t,rfl⟩:=c;exact SeqAt.EqAt.str_str a d b t
  | _=>exact absurd (show false=true from g) zf
 | _=>exact absurd (show false=true from h) zf
def eqU(x:V)(u:Value):Bool:=match u with
 | .none=>eqV .non x
 | .bool b=>eqV (.bl b) x
 | .int i _=>eqV (.int i) x
 | .str z _=>eqV (.str z) x
 | _=>false
theorem Hn{x y:V}{u:Value}(r:RelV y u)(f:jB y=true):eqU x u=eqV y x:=by
 cases y with
 |non=>cases r;rfl
 |bl b=>cases r;rfl
 |int i=>obtain⟨t,rfl⟩:=r;rfl
 |str z=>obtain⟨t,rfl⟩:=r;rfl
 | _=>exact absurd (show false=true from f) zf
theorem xB{x:V}:∀{xs:List V}{us:List Value},aW xs us->xs.all jB=true->us.any (eqU x)=xs.any λy=>eqV y x
 | _,_,.nil,_=>rfl
 |y::xs,u::us,.cons r t,f=>by
  rw[List.all_cons,zr] at f;rw[List.any_cons,List.any_cons,Hn r f.1,xB t f.2]
theorem xC{A:Around}{s:Shared}{x:V}{v:Value}(d:RelV x v)(g:jB x=true):∀{xs:List V}{us:List Value},aW xs us->xs.all jB=true->∀u∈us,SeqAt.EqAt A s u v (eqU x u)
 | _,_,.nil,_=>λu c=>by cases c
 |y::xs,u::us,.cons r t,f=>λh c=>by
  rw[List.all_cons,zr] at f
  rcases zk.mp c with rfl | c
  ·rw[Hn r f.1];exact Uh r d f.1 g
  ·exact xC d g t f.2 h c
def inV(x:V)(xs:List V):Bool:=xs.any λy=>eqV y x
def rIn(K:PySem.W.Frag)(d:Bool):R2:=λx y H Q=>∃p c,y=.ref p/\(SqL K H p c\/SqT K H p c)/\jB x=true/\c.all jB=true/\Q (.bl (if d then !inV x c else inV x c)) H
theorem Ui:OpR X (compareOp .In) (rIn X.K false):=by
 intro pins s σ H x y v u Q I i k h;obtain⟨p,m,rfl,d,j,fs,q⟩:=h;cases k
 rcases d with d | d
 ·obtain⟨c,r,f,l⟩:=I.list d;refine SeqAt.in_listAt (eqU x) f.isList (λw g=>xC i j r fs w (by simpa using g)) ⟨.bl _,H,I,rfl,?_⟩;rw[show c.toArray.any (eqU x)=c.any (eqU x) by simp,xB r fs];exact q
 ·obtain⟨c,r,f,l⟩:=I.tuple d;refine SeqAt.in_tupleAt (eqU x) f (λw g=>xC i j r fs w (by simpa using g)) ⟨.bl _,H,I,rfl,?_⟩;rw[show c.toArray.any (eqU x)=c.any (eqU x) by simp,xB r fs];exact q
theorem Ho:j7 X (.type "list") (λxs H Q=>∃p ys,xs=[.ref p]/\(SqL X.K H p ys\/SqT X.K H p ys)/\∀l,H l=none->Q (.ref l) (upd H l (.lst ys))):=by
 intro pins s σ H xs C Q I r h;obtain⟨p,ys,rfl,j,q⟩:=h;obtain⟨u,rfl,B⟩:=vals1 r;cases B;have k:∀(c:List Value),aW ys c->ys.length<=sizeLine->∀(d:Heap) (g:Nat),(∀b y,s.heap.get? b=some y->d.get? b=some y) ->
   d.get? s.heap.objs.size=some {cls:=.type "list",dict:=none,data:=.seq c.toArray g,slots:=#[]}->EP X pins σ Q (.ref s.heap.objs.size) {s with heap:=d}:=λc f i d g kp e =>
  ⟨.ref s.heap.objs.size,_,I.laid (t':=s.toks) kp (zc _) (show cC X.prog X.w _ d _ (.lst ys) from⟨i,c,g,f,e⟩),rfl,q _ (I.hok.fresh (zc _))⟩
 rcases j with j | j
 ·obtain⟨c,f,m,i⟩:=I.list j;have hlen:=f.length;obtain⟨o,t,x,n,hd⟩:=m.isList;exact call_list_seq p (.inl rfl) t x hd (λd g kp e=>k c f i d g kp e) (by simp only[zy]<;>omega)
 ·obtain⟨c,f,m,i⟩:=I.tuple j;have hlen:=f.length;obtain⟨o,t,x,n,hd⟩:=m;exact call_list_seq p (.inr rfl) t x hd (λd g kp e=>k c f i d g kp e) (by simp only[zy]<;>omega)
def tyV(K:PySem.W.Frag)(T:String)(x:V)(H:Hp):Prop:=match x with
 | .str _=>T = "str"
 | .int _=>T = "int"
 | .ref p=>(T = "list"/\∃c,SqL K H p c)\/(T = "tuple"/\∃o,K.lookup p=some o/\o.cls=.type "tuple"/\o.dict=none) \/
   (T = "dict"/\((∃kvs,H p=some (.dK kvs))\/∃kvs,H p=some (.dT kvs)))\/(T = "set"/\∃S n,H p=some (.set S n))
 | _=>False
theorem Hq{pins:List (Addr×Obj)}{σ:St}{H:Hp}{s:Shared}{T:String}{x:V}{v:Value}(I:Inv X pins σ H s)(r:RelV x v)(ty:tyV X.K T x H):
  s.TypeIs v T/\∀a,v=.ref a->∃ob,s.heap.get? a=some ob/\ob.dict=none:=by
 cases x with
 |str z =>
  obtain⟨t,rfl⟩:=r;cases(show T = "str" from ty);exact⟨typeIs_str s z t,λ_ e=>nomatch e⟩
 |int i =>
  obtain⟨t,rfl⟩:=r;cases(show T = "int" from ty);exact⟨typeIs_int s i t,λ_ e=>nomatch e⟩
 |ref p =>
  cases r
  rcases ty with⟨rfl,l,h⟩ | ⟨rfl,o,d,j,hd⟩ | ⟨rfl,d⟩ | ⟨rfl,S,n,d⟩
  ·obtain⟨k,_,g,_⟩:=I.list h;refine⟨g.isList.typeIs,λa e=>?_⟩;cases e;obtain⟨o,n,e,c,hd,_⟩:=g;exact⟨o,e,hd⟩
  ·refine⟨⟨o,I.kIn p o d,j⟩,λa e=>?_⟩;cases e;exact⟨o,I.kIn _ o d,hd⟩
  ·have z:∃o,s.heap.get? p=some o/\o.ExactDict:=by
    rcases d with⟨kvs,d⟩ | ⟨kvs,d⟩
    ·obtain⟨_,_,_,_,o,_,_,e,ex,_⟩:=I.hok p _ d;exact⟨o,e,ex⟩
    ·obtain⟨_,_,_,_,o,_,_,e,ex,_⟩:=I.hok p _ d;exact⟨o,e,ex⟩
   obtain⟨o,e,ex⟩:=z;refine⟨⟨o,e,ex.1⟩,λa f=>?_⟩;cases f;exact⟨o,e,ex.2.1⟩
  ·obtain⟨o,_,_,_,e,ex,_⟩:=I.hok p _ d;refine⟨⟨o,e,ex.1⟩,λa f=>?_⟩;cases f;exact⟨o,e,ex.2.1⟩
 | _=>exact False.elim ty
def Uj(K:PySem.W.Frag)(T:String)(r:V->List V->Hp->VK->Prop)(to:TE):TE:=λσ H Q=>to σ H λx c=>tyV K T x c/\r x [] c Q
def tBM(K:PySem.W.Frag)(T:String)(r:V->List V->Hp->VK->Prop)(to:TE)(t:TA):TE:=λσ H Q=>to σ H λx c=>tyV K T x c/\t σ c λd f=>r x d f Q
variable {o e:Expr}{es:List Expr}{to:TE}{t:TA}{name:Str}{apos cpos:Pos}{T id:String}{r:V->List V->Hp->VK->Prop}
theorem Uk(g:PlainAttrs T)(slot:Slot T name id)(f:typeOf (.builtin id)=pure (.type "method_descriptor"))(j:MtR X id r)(i:PE X o to)
  (d:attributeBase o name X.env (eval o X.env)=eval o X.env:=by rfl) (c:(apos.endLine == cpos.line)=true:=by rfl):PE X (.Call (.Attribute o name apos) [] [] cpos) (Uj X.K T r to):=by
 intro pins s σ H Q I h;refine wpAny_Call_method0_late d c (thn (i pins s σ H _ I h) λv s1 ⟨x,H1,I1,r1,ty,q1⟩=>?_);obtain⟨h1,h2⟩:=Hq I1 r1 ty;exact⟨T,id,g,slot,f,h1,h2,Calls.callWith_builtin rfl (PySem.evalArgs_none (j pins s1 σ H1 x [] v [] Q I1 r1 .nil q1))⟩
theorem uf(k:PlainAttrs T)(slot:Slot T name id)(i:typeOf (.builtin id)=pure (.type "method_descriptor"))(n:MtR X id r)(m:PE X o to)(q:PA X (e::es) t)
  (f:attributeBase o name X.env (eval o X.env)=eval o X.env:=by rfl)
  (g:((backTo cpos (starEach (e::es) X.env)).all (λx=>!x.1)&&(backToKw cpos (keywordEach [] X.env)).all (λx=>x.1.isSome)
   && decide ((e::es).length+([]:List Keyword).length+(if([]:List Keyword).isEmpty then 0 else 1)<30))=true:=by rfl)
  (d:(apos.endLine == cpos.line)=true:=by rfl) (l:starEach (e::es) X.env=(false,eval e X.env)::starEach es X.env:=by rfl) (c:(backTo cpos (starEach es X.env)).any (·.1)=false:=by rfl):
  PE X (.Call (.Attribute o name apos) (e::es) [] cpos) (tBM X.K T r to t):=by
 intro pins s σ H Q I h;refine wpAny_Call_method_late f g d rfl (thn (m pins s σ H _ I h) λv s1 ⟨x,H1,I1,r1,ty,q1⟩=>?_);obtain⟨h1,h2⟩:=Hq I1 r1 ty;refine⟨T,id,k,slot,i,h1,h2,?_⟩;have j:=q cpos pins s1 σ H1 _ I1 q1;rw[l] at j ⊢;refine Calls.callWith_builtin (by show(false || (backTo cpos (starEach es X.env)).any (·.1))=false;rw[c]<;>rfl) (Calls.evalArgs_plain ?_)
 exact thn j λus s2 ⟨vs,H2,I2,r2,q2⟩=>n pins s2 σ H2 x vs v us Q I2 r1 r2 q2
/- xs.append(e),list.index on a module's tuple .. are MtR facts of 06m -/
end
def MtM(X:Cx)(c:String)(r:V->List V->Hp->VK->Prop):Prop :=
 ∀(pins:List (Addr×Obj)) (s:Shared) (σ:St) (H:Hp) (x:V) (a:List V) (v:Value) (b:List Value) (Q:VK),Inv X pins σ H s->RelV x v->aW a b->r x a H Q ->
  wpAny (model X.prog X.w) X.A (call (.builtin c) (v::b)) (EP X pins σ Q) X.xe s
theorem aW.one:∀{x:V}{us:List Value},aW [x] us->∃u,us=[u]/\RelV x u
 | _,_,.cons r .nil=>⟨_,rfl,r⟩
theorem aW.zero:∀{us:List Value},aW [] us->us=[]
 | _,.nil=>rfl
theorem aW.rep{xs:List V}{us:List Value}(h:aW xs us):∀k:Nat,aW (List.replicate k xs).flatten (List.replicate k us).flatten
 | 0=>.nil
 |k+1=>by
  rw[List.replicate_succ,List.replicate_succ,List.flatten_cons,List.flatten_cons];exact aW.append h (aW.rep h k)
theorem foldl_rep(its:List Value):∀(k:Nat) (acc:List Value),
  List.foldl (λb a=>b++a) acc.toArray (List.replicate k its.toArray)=(acc++(List.replicate k its).flatten).toArray
 | 0,acc=>by simp
 |k+1,acc=>by
  have e:acc.toArray++its.toArray=(acc++its).toArray:=by simp
  have c:(acc++its)++(List.replicate k its).flatten=acc++(List.replicate (k+1) its).flatten:=by
   rw[List.replicate_succ,List.flatten_cons,zB]
  rw[<-c,<-foldl_rep its k (acc++its),<-e,List.replicate_succ,List.foldl_cons]
section
variable {X:Cx}{pins:List (Addr×Obj)}{σ:St}{H:Hp}{s:Shared}{l b:Addr}{xs ys zs:List V}
theorem Inv.lset{its its':List Value}{n:Nat}{f:Array Value->Array Value}{t':Nat}(I:Inv X pins σ H s)(g:H l=some (.lst xs))
  (e:s.heap.get? l=some {cls:=.type "list",data:=.seq its.toArray n}) (c:f its.toArray=its'.toArray) (hv:aW ys its') (hz:ys.length<=sizeLine):
  Inv X pins σ (upd H l (.lst ys)) {s with heap:=s.heap.update l (Obj.mapSeq f),toks:=t'}:=by
 have q:=PySem.IsL.update e f;rw[c] at q;refine I.write (x:=l) (e:=l) (by rw[g];exact trivial) (.inl rfl) (λh u d a=>(jl s.heap (Obj.mapSeq f) (Ne.symm d)).trans a) ⟨_,q⟩ ?_;exact⟨hz,its',_,hv,q⟩
theorem Inv.lnew{its:List Value}{t':Nat}(I:Inv X pins σ H s)(hv:aW ys its)(hz:ys.length<=sizeLine):
  Inv X pins σ (upd H s.heap.objs.size (.lst ys)) {s with heap:=s.heap.push {cls:=.type "list",data:=.seq its.toArray},toks:=t'}:=
 I.laid (λ_ _ q=>zm _ q) (zc _) ⟨hz,its,0,hv,zw _ rfl⟩
theorem Inv.fresh(I:Inv X pins σ H s):H s.heap.objs.size=none:=I.hok.fresh (zc _)
theorem Inv.lstM(I:Inv X pins σ H s)(a:H l=some (.lst xs)):xs.length<=sizeLine/\∃(its:List Value) (n:Nat),aW xs its/\xs.length=its.length/\s.heap.get? l=some {cls:=.type "list",data:=.seq its.toArray n}:=by
 obtain⟨z,its,n,r,e⟩:=I.hok l _ a;exact⟨z,its,n,r,r.length,e⟩
theorem Hr{n:Nat}(h:n<=sizeLine):Builtin.List.listTooLong n=false:=by
 unfold Builtin.List.listTooLong;exact zd (by omega)
end
section
variable {X:Cx}
def Ul:V->List V->Hp->VK->Prop:=λx b H Q=>∃l a y,x=.ref l/\b=[y]/\H l=some (.lst a)/\a.length<sizeLine/\Q .non (upd H l (.lst (a++[y])))
theorem Um:MtM X "list.append" Ul:=by
 intro pins s σ H x g v i Q I c rv h;obtain⟨l,f,y,rfl,rfl,b,j,q⟩:=h;cases c;obtain⟨u,rfl,d⟩:=rv.one;obtain⟨z,a,n,r,k,e⟩:=I.lstM b;refine call_meets F.slot_list_append ⟨_,e,rfl⟩ F.entry_list_append (F.args_list_append_2 _ _) (PySem.list_append l a.toArray n u (by rw[zy];omega)) ⟨e,?_⟩;refine⟨.non,_,I.lset (its':=a++[u]) b e (by simp) (r.append (.cons d .nil)) ?_,rfl,q⟩;rw[zu,jd];omega
def Uo:V->List V->Hp->VK->Prop:=λx b H Q=>∃l a,x=.ref l/\b=[]/\H l=some (.lst a)/\Q .non (upd H l (.lst []))
theorem Up:MtM X "list.clear" Uo:=by
 intro pins s σ H x g v i Q I d rv h;obtain⟨l,f,rfl,rfl,c,q⟩:=h;cases d;have b:=rv.zero;subst b;obtain⟨z,a,n,r,j,e⟩:=I.lstM c;refine call_meets F.slot_list_clear ⟨_,e,rfl⟩ F.entry_list_clear (F.args_list_clear_1 _) (AutoSeq1.list_clear_list_0 l a.toArray n (by rw[zy];omega)) ⟨e,?_⟩;exact⟨.non,_,I.lset (its':=[]) (ys:=[]) c e rfl .nil (Nat.zero_le _),rfl,q⟩
theorem len_rep{α:Type}(xs:List α)(k:Nat):(List.replicate k xs).flatten.length=k * xs.length:=by
 induction k with
 |zero=>simp
 |succ k a=>rw[List.replicate_succ,List.flatten_cons,zu,a,Nat.succ_mul,Nat.add_comm]
end
section
variable {prog:Program}{w:World}{A:Around}{E:Value->Shared->Prop}{s:Shared}
end
section
variable {X:Cx}
end
end L2
namespace Att
open PySem PySem.W PySem.Calls PyProof.Rows
theorem Uq{P:Params}{h:Heap}:∀(ns:List Int) (vs:List Value),WellAll P h vs (ns.map WData.int)->IntsAre vs ns:=by
 intro ns
 induction ns with
 |nil =>
  intro vs w;rw[zL] at w;cases w;exact .nil
 |cons n ns ih =>
  intro vs w;rw[zh] at w
  cases w with
  |cons a b =>
   cases a;exact .cons _ _ (ih _ b)
theorem Ur{l:OpenLaw}{n:Nat}(m:l.most=some n){P:Params}{h:Heap}{args:List WData}{vals:List Value}
  (b:l.row.toRowW.claim.pre args=true) (g:WellAll P h vals args):
  ∃a vs ns,vals=[Value.ref a]/\args=[WData.list (ns.map WData.int)]/\h.get? a=some {cls:=.type "list",data:=.seq vs.toArray}/\IntsAre vs ns/\ns.length<=n:=by
 have i:WShape.hasAll [] args [.list .int]=true:=(pre_splitW b).1;have j:l.pre.holds [] {args:=args}=true:=(pre_splitW b).2;obtain⟨d,r,rfl,h1,h2⟩:=hasAllW_cons i;obtain rfl:=hasAllW_nil h2;obtain⟨t,rfl,h3⟩:=hasW_list h1;obtain⟨ns,rfl⟩:=items_int h3
 have hlen:ns.length<=n:=by
  unfold OpenLaw.pre at j
  have h4:(WTm.not (.lt (.lit (.int (n:Int))) (.len (.arg 0)))).holds [] {args:=[.list (ns.map .int)]}=true:=by
   have h4:=(holds_andW j).1;rw[m] at h4;exact h4
  have f:=condW_of h4 (w_not (w_lt w_lit (w_len_list (w_arg rfl))));rw[ze] at f
  refine Nat.le_of_not_lt λq=>?_
  have q':(n:Int)<((ns.length:Nat):Int):=by omega
  first
   | (rw[zl q'] at f;exact absurd f (by decide))
   | (simp at f;omega)
 cases g with
 |cons w1 w2 =>
  cases w2
  cases w1 with
  |list k c=>exact⟨_,_,ns,rfl,rfl,k,Uq ns _ c,hlen⟩
theorem Us(l:OpenLaw)(args:List WData):l.row.toRowW.claim.post args (.bool true) args=true :=
 postW_of (r:=l.row.toRowW) (X:=(true == true))
  (show WShape.has [] (.bool true) .bool=true by first | rfl | decide | simp[WShape.has,WShape.arms,WShape.armsAll])
  (show(WTm.eq .res (.lit (.bool true))).value [] {args:=args,res:=some (.bool true),after:=args}=some (.bool (true == true)) from w_eq_bool (w_res rfl) w_lit) rfl
theorem attach_call{l:OpenLaw}{n:Nat}{q:Program}{loose:List Str}{B:(Str->Option Value)->Heap->Prop}{y:World->Heap->Prop}{d:DefRec}
  (H:l.most=some n) (t:d.params.defaults=[])
  (call:∀(w:World) (s₀ b:Shared) (mg mb:Str->Option Value) (fa:Addr) (o:Obj) (pm j c:Value) (a:Addr) (vs:List Value) (ns:List Int),
   Ground q loose [] B w s₀ mg mb b.heap->y w b.heap ->
   b.heap.get? fa=some o->o.data=.func (docDef d.name d.params d.body d.scope pm j c)->b.heap.CodeRec j d.name->mg d.name=some (.ref fa) ->
   b.heap.get? a=some {cls:=.type "list",data:=.seq vs.toArray}->IntsAre vs ns->ns.length<=n->b.gens = #[] ->
   codeAny (model l.prog w) callerA (.call (.ref fa) ⟨[.ref a],[]⟩) (λr i=>r=.ok (.ret (.bool true))/\OldK b.heap i.heap/\i.os=b.os/\AllBare i.gens) b):
  WalkO q loose B y l.row.toRowW d [] (λf vs=>PySem.call f vs):=by
 intro w s₀ b mg mb G Y fa o pm j c L kV F hd u x m J args vals Q g C O k P;obtain rfl:L=.none:=Dflts.none x t;obtain rfl:kV=.none:=Dflts.noKw x;obtain⟨a,vs,ns,rfl,rfl,h,hints,hlen⟩:=Ur H g k;refine enter_call (codeAny_mono (call w s₀ b mg mb fa o pm j c a vs ns G Y F (fd_plain hd) u m h hints hlen J) λr i E=>?_);obtain⟨rfl,h2,h3,h4⟩:=E;exact⟨.inl ⟨.bool true,.bool true,[],rfl,λ_=>rfl,.bool true,Us l _,λ_=>⟨List.Pairwise.nil,λ_ I=>(nomatch I)⟩⟩,h2,h3,h4⟩
section
variable {prog:Program}{w:World}{A:Around}{E:Value->Shared->Prop}{s:Shared}{K:Frag}
end
end Att
namespace L2
open PySem PySem.Spec PyProof.Rows
theorem xD:∀{vs:List Value}{ns:List Int},IntsAre vs ns->aW (ns.map V.int) vs
 | _,_,.nil=>.nil
 | _,_,.cons n t h=>.cons ⟨t,rfl⟩ (xD h)
def mZ(H:Hp):Prop:=∀b,H b=none\/∃o a,H b=some (.frz o (.lst a))
theorem Ut{P:Program}{w:World}{K:PySem.W.Frag}{mg mb:Str->Option Value}{CX:CXT}{k:Nat}{fa a:Addr}{fd:FuncData}{x:Str}{sp:Sp}{c:Shared}{vs:List Value}{ns:List Int}
  (Z:K.In c.heap) (y:c.heap.Ns mainGlobals mg) (hb:c.heap.Ns builtinsNs mb) (O:∀x:Str,x≠"__name__"->mb x=bootBuiltins x) (G:c.heap.NoLimit) (hg:c.gens = #[])
  (I:c.heap.get? a=some {cls:=.type "list",data:=.seq vs.toArray}) (T:IntsAre vs ns) (R:ns.length<=sizeLine) (hr:bC k callerA)
  (F:∀base:Heap,K.In base->base.Ns mainGlobals mg->dq P w K mg base CX k fa fd [x] sp) (j:∀(s:Shared) (u:Value),BindsTo s fd ⟨[u],[]⟩ [(x,u)])
  (L:∀H:Hp,mZ H->SqL K H a (ns.map V.int)->sp [.ref a] H (λv _=>v=.bl true) λ_ _ _=>False)
  (Q:∀H e g,CX [] H c (λ_ _ _=>False) e g->False):
  codeAny (model P w) callerA (.call (.ref fa) ⟨[.ref a],[]⟩) (λr g=>r=.ok (.ret (.bool true))/\OldK c.heap g.heap/\g.os=c.os/\AllBare g.gens) c:=by
 have rv:=xD T;have C:=T.length;have core:∀H:Hp,mZ H->SqL K H a (ns.map V.int)->HOk P w H c.heap->(∀b,H b≠none->b=a)->(H a≠none->K.lookup a=none) ->
   codeAny (model P w) callerA (.call (.ref fa) ⟨[.ref a],[]⟩) (λr g=>r=.ok (.ret (.bool true))/\OldK c.heap g.heap/\g.os=c.os/\AllBare g.gens) c:=by
  intro H U hS hok X hK
  have f:∀{b:Addr}{o:Obj},c.heap.get? b=some o->H b=none->(fZ c.heap H).get? b=some o:=λe n=>Gs e n
  have J:∀{b:Addr}{o:Obj}{l:Array DictEntry}{t:Nat},c.heap.get? b=some o->o.data=.dict l t->H b=none:=λ{b o l t} e d=>by
   cases q:H b with
   |none=>rfl
   |some u =>
    have e':b=a:=X b (by rw[q];simp);subst e';rw[I] at e;cases e;have d':Data.seq vs.toArray _=Data.dict l t:=d;cases d'
  have i:∀{b:Addr}{m:Str->Option Value},c.heap.Ns b m->(fZ c.heap H).Ns b m:=λ{b m} ⟨o,l,t,e,d,r⟩=>⟨o,l,t,f e (J e d),d,r⟩
  have B:K.In (fZ c.heap H):=λb o e=>f (Z b o e) (by
   cases q:H b with
   |none=>rfl
   |some u =>
    have e':b=a:=X b (by rw[q];simp);subst e'
    rw[hK (by rw[q];simp)] at e;cases e)
  have hM:Mod K mg (fZ c.heap H):=⟨B,i y,⟨mb,i hb,O⟩,let ⟨mc,h1,h2⟩:=G;⟨mc,i h1,h2⟩⟩;have e0:jA P w K mg (fZ c.heap H) callerA [] c H:=⟨rfl,hM,λb o e=>Gu e,Nat.le_of_eq (Gq _ _),trivial,λb hb=>absurd (show b∈([]:List Addr) from hb) (by simp),hok,.of_eq hg⟩
  refine codeAny_mono ((F _ B (i y)).run callerA [] c H ⟨[.ref a],[]⟩ [.ref a] [.ref a] _ _ hr e0 (j c (.ref a)) (.cons rfl .nil) (L H U hS)) λr g h=>?_
  cases r with
  |error e=>exact(Q H e g h).elim
  |ok fl =>
   cases fl with
   |next=>exact False.elim h
   |brk=>exact False.elim h
   |cont=>exact False.elim h
   |ret u =>
    obtain⟨v,H',os,bare,un,E,r',q⟩:=h;have q':v=.bl true:=q;subst q';obtain rfl:u=Value.bool true:=r';refine⟨rfl,OldK.of_keep λb o e=>?_,os,bare⟩
    cases q:H b with
    |none=>exact un.keep b o e q (by intro z;exact absurd (show b∈([]:List Addr) from z) (by simp)) (by simp)
    |some u =>
     rcases U b with z | ⟨ob,xs,z⟩
     ·rw[q] at z;cases z
     ·have z2:=un.frzs b ob _ z;obtain⟨Y,_⟩:=hok b _ z;obtain⟨e2,_⟩:=E b _ z2;rw[e] at Y;cases Y;exact e2
 cases hk:K.lookup a with
 |some o =>
  have e:=Z a o hk;rw[I] at e;cases e
  refine core (λ_=>none) (λ_=>.inl rfl) (.inr ⟨_,vs.toArray,_,hk,rfl,rfl,rfl,by rw[zy,C];exact R,by simpa using rv⟩) (λb u z=>by have z':(none:Option HO)=some u:=z;cases z') (λb z=>absurd rfl z) λz=>absurd rfl z
 |none =>
  refine core (λb=>if b=a then some (.frz {cls:=.type "list",data:=.seq vs.toArray} (.lst (ns.map V.int))) else none) (λb=>?_) (.inl (.inr ⟨{cls:=.type "list",data:=.seq vs.toArray},if_pos rfl⟩)) (λb u z=>?_) (λb z=>?_) λ_=>hk
  ·by_cases hb:b=a
   ·exact .inr ⟨_,_,if_pos hb⟩
   ·exact .inl (if_neg hb)
  ·by_cases hb:b=a
   ·have z':=(if_pos hb).symm.trans z;cases z';subst hb;exact⟨I,by rw[ze];exact R,vs,_,rv,I⟩
   ·have z':=(if_neg hb).symm.trans z;cases z'
  ·by_cases hb:b=a
   ·exact hb
   ·exact absurd (if_neg hb) z
abbrev KOf{K:PySem.W.Frag}{h:Heap}(_:K.In h):PySem.W.Frag:=K
theorem walk_of{l:PySem.W.OpenLaw}{n k:Nat}{q:Program}{loose:List Str}{XP:(Str->Option Value)->Heap->Prop}{YP:World->Heap->Prop}{d:DefRec}{K:Params->PySem.W.Frag}{CX:World->CXT}{sp:World->Sp}{x:Str}
  (hn:l.most=some n) (hn2:n<=sizeLine) (hdf:d.params.defaults=[]) (hr:bC k callerA)
  (hY:∀(w:World) (h:Heap),YP w h->(K w.params).In h)
  (F:∀(w:World) (mg:Str->Option Value) (fa:Addr) (h:Heap),(K w.params).In h->h.Ns mainGlobals mg->mg d.name=some (.ref fa) ->
   ∃fd:FuncData,(∀(s:Shared) (u:Value),BindsTo s fd ⟨[u],[]⟩ [(x,u)]) /\
    ∀base:Heap,(K w.params).In base->base.Ns mainGlobals mg->dq l.prog w (K w.params) mg base (CX w) k fa fd [x] (sp w))
  (hsp:∀(w:World) (H:Hp) (a:Addr) (ns:List Int),ns.length<=n->mZ H->SqL (K w.params) H a (ns.map V.int)->sp w [.ref a] H (λv _=>v=.bl true) λ_ _ _=>False)
  (hCX:∀(w:World) (H:Hp) (s:Shared) (e:Value) (s':Shared),CX w [] H s (λ_ _ _=>False) e s'->False):
  PySem.W.WalkO q loose XP YP l.row.toRowW d [] (λf vs=>PySem.call f vs):=by
 refine Att.attach_call hn hdf λw s₀ s₁ mg mb fa o pm cd doc a vs ns G Y ho hd hcd hmg hobj hints hlen hg=>?_
 have KX:=hY w _ Y;obtain⟨fd,hb,hF⟩:=F w mg fa _ KX G.T.g hmg
 exact Ut KX G.T.g G.T.b G.T.builtins G.T.nolimit hg hobj hints (zG hlen hn2) hr hF hb (λH hO hS=>hsp w H a ns hlen hO hS) λH e s'=>hCX w H s₁ e s'
end L2
/- THE LAST THEOREM (shape;LID,My.* are yours):
   My.Adr: a structure of the addresses that your layer names (classes,functions);My.Txt K t: a structure (Prop) of the equations over K;
   My.txt_mk:{K}{implicit addresses ..} (e1:nsIn K mainGlobals "law" = some (some (.ref f))) (e2:K.lookup f=some ⟨oc,od,.func (fnOf "law" "law" params body scope dV kV doc pm an cdv ct),sl⟩) (e3:codeIn K cdv "law" = true) ..:∃t,My.Txt K t
set_option maxRecDepth 100000 in
set_option maxHeartbeats 0 in
theorem PySem.Challenge.cw_LID_holds : PySem.Challenge.rw_LID.Holds := by
 w_on;o_law;k_head;(case hw=>w_witness2)
 k_fill
 refine L2.walk_of (l:=PySem.Challenge.rw_LID) (n:=63) (k:=40) (x:="script") (CX:=λw=>..) (sp:=λ_=>My.sp_law) rfl (by decide) rfl ⟨rfl,by decide,by decide⟩ (λw h Y=>PySem.W.kIn_of Y) ?F ?S ?C
 case F =>
  intro w mg fa h KX G hmg
  have T:∃t,My.Txt (L2.KOf KX) t:=by
   dsimp only[L2.KOf]                          -- K must stand as «<heap const> w.params» for k_is
   refine' My.txt_mk ?e1 ?e2 ?e3 ..
   (case e1=>PySem.W.k_is)                    -- in the order: a name -> its address -> its object -> its parts
   (case e2=>PySem.W.k_is)
   ..
  obtain⟨t,T⟩:=T;have e0:=hmg.symm.trans (PySem.W.mg_of KX G T.law);cases e0                                       -- fa is the law's own address
  exact⟨_,λs u=>.of_eq rfl,λbase kb nb=>My.law_fn T kb nb⟩     -- if «.of_eq rfl» comes too early: refine'⟨_,?b,λbase kb nb=>My.law_fn T kb nb⟩;exact λs u=>.of_eq rfl
 case S=>exact λw H a ns hl hO hS=>..
 case C=>exact ..
(the tactic k_is has no namespace: write k_is) -/
namespace L2
open PySem PySem.Spec PyProof.Rows
def inClass(s:Stmt)(j:Nat):Stmt:=match s with
 | .ClassDef _ _ _ body _ _ _ _ _ _ _=>body.getD j (.Pass ⟨0,0,0,0⟩)
 | _=>.Pass ⟨0,0,0,0⟩
def gY(s:Stmt):Arguments:=match s with
 | .FunctionDef _ a _ _ _ _ _ _ _ _=>a
 | _=>{posonlyargs:=[],args:=[],vararg:=none,kwonlyargs:=[],kw_defaults:=[],kwarg:=none,defaults:=[]}
def eO(s:Stmt):List Stmt:=match s with
 | .FunctionDef _ _ b _ _ _ _ _ _ _=>b
 | _=>[]
def aY(s:Stmt):Scope:=match s with
 | .FunctionDef _ _ _ _ _ _ sc _ _ _=>sc
 | _=>{kind:=.function,names:=[],isGenerator:=false,isCoroutine:=false}
abbrev CX0:CXT:=λ_ _ _ _ _ _=>False
abbrev E0:XK:=λ_ _ _=>False
theorem oK{X:Cx}:j8 CX0 X E0:=λ_ _ _ _ _ _ _ h=>h.elim
structure Fun(K:PySem.W.Frag)(x qual:Str)(st:Stmt)(f:Addr)(fd:FuncData):Prop where
 ex:∃(oc:Value) (od:Option Addr) (kV doc pm:Value) (an:Option Addr) (cdv ct:Value) (osl:Array (Option Value)),
  fd=PySem.W.fnOf x qual (gY st) (eO st) (aY st) .none kV doc pm an cdv ct/\K.lookup f=some ⟨oc,od,.func fd,osl⟩/\PySem.W.codeIn K cdv qual=true
 kp:PySem.W.keepIn K (.ref f)=true
section
variable {P:Program}{w:World}{K:PySem.W.Frag}{mg:Str->Option Value}{base:Heap}
theorem Fun.ok{x qual:Str}{st:Stmt}{f:Addr}{fd:FuncData}{N ps:List Str}{k:Nat}{sp:Sp}(F:Fun K x qual st f fd)(S:bH N ps (aY st))(len:∀vs H Q E,sp vs H Q E->vs.length=ps.length)
  (b:∀(a:Value) (A:Around) (outer:List Env) (s:Shared) (H:Hp) (vs:List V) (Q:VK) (E:XK),bC k (A.deeper (envOfC qual (aY st) s.heap.objs.size f a))->sp vs H Q E ->
   ∃t,PSs (iG CX0 P w K mg base N qual (aY st) f a A outer s H E).nox (eO st) t/\t {nx:=λ_ i=>Q .non i,rt:=Q} (start N vs) H):dq P w K mg base CX0 (k+1) f fd ps sp:=by
 obtain⟨r,n,kV,l,m,u,a,ct,j,rfl,lk,d⟩:=F.ex
 refine Tu lk d S len λA outer s H vs Q E g c=>?_
 obtain⟨t,h,q⟩:=b a A outer s H vs Q E g c;exact⟨t,h.nox,q⟩
theorem Fun.binds{x qual:Str}{st:Stmt}{f:Addr}{fd:FuncData}{ps:List Str}(F:Fun K x qual st f fd)
  (h:∀(kV a pm:Value) (c:Option Addr) (b ct:Value) (us:List Value),us.length=ps.length->bindArgs (PySem.W.fnOf x qual (gY st) (eO st) (aY st) .none kV a pm c b ct) ⟨us,[]⟩=pure (ps.zip us)):Binds K fd ps []:=by
 obtain⟨j,i,kV,a,pm,c,b,ct,d,rfl,lk,g⟩:=F.ex;exact .all (h kV a pm c b ct)
theorem xE{x qual:Str}{st:Stmt}{f:Addr}{i:Value}{h g:Option Addr}{d:Array (Option Value)}{kV b pm a ct:Value}(l:K.lookup f=some ⟨i,h,.func (PySem.W.fnOf x qual (gY st) (eO st) (aY st) .none kV b pm g a ct),d⟩)
  (c:PySem.W.codeIn K a qual=true) (k:PySem.W.keepIn K (.ref f)=true):Fun K x qual st f (PySem.W.fnOf x qual (gY st) (eO st) (aY st) .none kV b pm g a ct):=⟨⟨i,h,kV,b,pm,g,a,ct,d,rfl,l,c⟩,k⟩
end
theorem Uu{A:Around}{k:Nat}(a:bC k A):A.units+1<cLine:=Nat.lt_of_le_of_lt (Nat.add_le_add_left (by decide:1<=64) _) a.units
section
variable {X:Cx}
end
def Same(H a:Hp):Prop:=∀b o,H b=some o->a b=some o
theorem Same.refl(H:Hp):Same H H:=λ_ _ h=>h
theorem Same.trans{H f d:Hp}(a:Same H f)(b:Same f d):Same H d:=λc o h=>b c o (a c o h)
theorem Same.seq{K:PySem.W.Frag}{H b:Hp}{a:Addr}{xs:List V}(e:Same H b)(h:SqL K H a xs):SqL K b a xs:=by
 rcases h with(h | ⟨o,h⟩) | h
 ·exact .inl (.inl (e _ _ h))
 ·exact .inl (.inr ⟨o,e _ _ h⟩)
 ·exact .inr h
section
variable {κ:Type}[DecidableEq κ]
def di(kvs:List (κ×V))(k:κ):Option V:=(kvs.find? λkv=>decide (kv.1=k)).map (·.2)
def putK(kvs:List (κ×V))(k:κ)(v:V):List (κ×V):=
 if(kvs.any λkv=>decide (kv.1=k))=true then kvs.map (λkv=>if kv.1=k then(kv.1,v) else kv) else kvs++[(k,v)]
theorem qN{p:κ×V}{r:List (κ×V)}{k:κ}(e:p.1=k):di (p::r) k=some p.2:=by simp[di,List.find?_cons,e]
theorem qO{p:κ×V}{r:List (κ×V)}{k:κ}(e:¬p.1=k):di (p::r) k=di r k:=by simp[di,List.find?_cons,e]
theorem xF(k:κ):∀kvs:List (κ×V),(kvs.any λkv=>decide (kv.1=k))=(di kvs k).isSome
 | []=>rfl
 |p::r=>by
  rw[List.any_cons]
  by_cases e:p.1=k
  ·simp only[qN e,zl e,Bool.true_or,Option.isSome_some]
  ·rw[qO e,zd e,Bool.false_or];exact xF k r
theorem Hs(kvs:List (κ×V))(k:κ)(v:V):(putK kvs k v).length<=kvs.length+1:=by
 unfold putK
 split
 ·rw[ze];omega
 ·rw[zu,zo,zJ];omega
theorem Uv{kvs:List (κ×V)}{k:κ}(v:V)(h:di kvs k=none):putK kvs k v=kvs++[(k,v)]:=by
 unfold putK;rw[xF,h];exact if_neg (by decide)
theorem eH.isSome_eq{o:Option V}{u:Option Value}(r:eH o u):o.isSome=u.isSome:=by
 cases o with
 |none=>cases u with
  |none=>rfl
  |some _=>exact(show False from r).elim
 |some _=>cases u with
  |none=>exact(show False from r).elim
  |some _=>rfl
theorem eH.getD{o:Option V}{u:Option Value}{d:V}{d':Value}(r:eH o u)(rd:RelV d d'):RelV (o.getD d) (u.getD d'):=by
 cases o with
 |none=>cases u with
  |none=>exact rd
  |some _=>exact(show False from r).elim
 |some _=>cases u with
  |none=>exact(show False from r).elim
  |some _=>exact r
theorem KV.val{kvs:List (κ×V)}{vs:List (κ×Value)}(r:KV kvs vs)(k:κ):eH (di kvs k) (valueAt vs k):=by
 unfold KV at r
 induction r with
 |nil=>exact True.intro
 | @cons p q ps qs h t ih =>
  obtain⟨h1,h2⟩:=h
  by_cases e:p.1=k
  ·have e':q.1=k:=h1.symm.trans e
   have b:valueAt (q::qs) k=some q.2:=by simp[valueAt,List.find?_cons,e']
   rw[qN e,b];exact h2
  ·have e':¬q.1=k:=λz=>e (h1.trans z)
   have b:valueAt (q::qs) k=valueAt qs k:=by simp[valueAt,List.find?_cons,e']
   rw[qO e,b];exact ih
theorem KV.any{kvs:List (κ×V)}{vs:List (κ×Value)}(r:KV kvs vs)(k:κ):(kvs.any λkv=>decide (kv.1=k))=vs.any λkv=>decide (kv.1=k):=by
 unfold KV at r
 induction r with
 |nil=>rfl
 |cons h t a=>rw[List.any_cons,List.any_cons,a,h.1]
theorem KV.repl{kvs:List (κ×V)}{vs:List (κ×Value)}(r:KV kvs vs)(k:κ){y:V}{u:Value}(a:RelV y u):
  KV (kvs.map λkv=>if kv.1=k then(kv.1,y) else kv) (vs.map λkv=>if kv.1=k then(kv.1,u) else kv):=by
 unfold KV at r ⊢
 induction r with
 |nil=>exact .nil
 | @cons p q ps qs h t ih =>
  rw[zh,zh];refine .cons ?_ ih;obtain⟨h1,h2⟩:=h
  by_cases e:p.1=k
  ·rw[if_pos e,if_pos (h1.symm.trans e)];exact⟨h1,a⟩
  ·rw[if_neg e,if_neg (λz=>e (h1.trans z))];exact⟨h1,h2⟩
theorem KV.put{kvs:List (κ×V)}{vs:List (κ×Value)}(r:KV kvs vs)(k:κ){y:V}{u:Value}(a:RelV y u):KV (putK kvs k y) (stored vs k u):=by
 unfold putK stored;rw[r.any k]
 by_cases e:(vs.any λkv=>decide (kv.1=k))=true
 ·rw[if_pos e,if_pos e];exact r.repl k a
 ·rw[if_neg e,if_neg e];exact Paired.snoc r ⟨rfl,a⟩
end
theorem ug{P:Program}{w:World}{k:Key}{u:Value}(r:RelV (kV k) u):(d7 P w).is k u=true:=by
 cases k with
 |inl i=>obtain⟨t,e⟩:=(show ∃t,u=Value.int i t from r);subst e;exact Qu P w i t
 |inr x=>obtain⟨t,e⟩:=(show ∃t,u=Value.str x t from r);subst e;exact Qv P w x t
theorem uh{P:Program}{w:World}:∀{ks:List Key}{us:List Value},aW (ks.map kV) us->ItemsAre (d7 P w) ks us
 | [],_,r=>by rw[zL] at r;cases r;exact .nil
 |k::ks,_,r=>by
  rw[zh] at r
  cases r with
  |cons h t=>exact .cons (ug h) (uh t)
abbrev KT(H:Hp):List (List Key×V)->List (List Key×Addr×Value)->Prop:=Paired λp q=>p.1=q.1/\H q.2.1=some (.tup (p.1.map kV))/\RelV p.2 q.2.2
theorem KT.val{H:Hp}{kvs:List (List Key×V)}{xs:List (List Key×Addr×Value)}(r:KT H kvs xs)(k:List Key):eH (di kvs k) ((atKey xs k).map (·.2)):=by
 induction r with
 |nil=>exact True.intro
 | @cons p q ps qs h t ih =>
  obtain⟨h1,_,h2⟩:=h
  by_cases e:p.1=k
  ·have e':q.1=k:=h1.symm.trans e
   have b:atKey (q::qs) k=some q.2:=by simp[atKey,List.find?_cons,e']
   rw[qN e,b];exact h2
  ·have e':¬q.1=k:=λz=>e (h1.trans z)
   have b:atKey (q::qs) k=atKey qs k:=by simp[atKey,List.find?_cons,e']
   rw[qO e,b];exact ih
section
variable {P:Program}{w:World}{H:Hp}{h:Heap}{a:Addr}
theorem xG{u:HO}(ok:HOk P w H h)(e:Rd H a u):cC P w H h a u:=e.ok ok
theorem xH{kvs:List (Key×V)}(ok:HOk P w H h)(e:Rd H a (.dK kvs)):kvs.length<=sizeLine/\(a == sysModules)=false/\∃vs,KV kvs vs/\h.DictOf (d7 P w) a vs :=
 show cC P w H h a (.dK kvs) from xG ok e
theorem Uw{kvs:List (Key×V)}(ok:HOk P w H h)(e:H a=some (.dK kvs)):kvs.length<=sizeLine/\(a == sysModules)=false/\∃vs,KV kvs vs/\h.DictOf (d7 P w) a vs:=xH ok (.inl e)
theorem Ht{ks:List Key}(ok:HOk P w H h)(e:H a=some (.tup (ks.map kV))):(tupleKind (d7 P w)).is h ks a:=by
 obtain⟨_,b,r,o,h1,h2,n,h3⟩:=(show cC P w H h a (.tup (ks.map kV)) from ok a _ e);exact⟨o,b.toArray,n,h1,h2,h3,by simpa using uh r⟩
theorem Hu{kvs:List (List Key×V)}(ok:HOk P w H h)(e:Rd H a (.dT kvs)):kvs.length<=sizeLine/\(a == sysModules)=false /\
  ∃xs,KT H kvs xs/\h.DictOfH (tupleKind (d7 P w)) a xs:=by
 obtain⟨z,y,xs,r,o,d,f,h1,h2,h3,h4,c⟩:=(show cC P w H h a (.dT kvs) from xG ok e);refine⟨z,y,xs,r,o,d,f,h1,h2,h3,h4,λx b=>?_,c⟩
 have all:∀{l:List (List Key×V)}{m:List (List Key×Addr×Value)},KT H l m->∀x∈m,(tupleKind (d7 P w)).is h x.1 x.2.1:=by
  intro l m q
  induction q with
  |nil=>intro x b;exact nomatch b
  | @cons p q ps qs hq t ih =>
   intro x b
   rcases zk.mp b with e | b
   ·subst e;exact Ht ok (by rw[<-hq.1];exact hq.2.1)
   ·exact ih x b
 exact all r x b
end
def Hv(H:Hp)(a:Addr)(y:V)(r:Option V):Prop :=
 (∃kvs k,Rd H a (.dK kvs)/\y=kV k/\r=di kvs k)\/∃kvs k b,Rd H a (.dT kvs)/\y=.ref b/\H b=some (.tup (k.map kV))/\r=di kvs k
section
variable {X:Cx}{pins:List (Addr×Obj)}{σ:St}{H:Hp}{s:Shared}{a:Addr}{y v:V}{u r:Value}{o:Option V}{A:Around}{E:Value->Shared->Prop}
theorem Inv.big(I:Inv X pins σ H s):sysModules<s.heap.objs.size:=by
 have h:mainGlobals<s.heap.objs.size:=(I.mod.glob.keeps I.bk).lt;exact Nat.lt_trans (by decide) h
theorem Hw{h':Heap}{t':Nat}{ob:HO}(I:Inv X pins σ H s)(d:Mut (H a))(hs:Heap.SameBut a s.heap h')(f:∃q,h'.get? a=some q)(c:cC X.prog X.w (upd H a ob) h' a ob):
  Inv X pins σ (upd H a ob) {s with heap:=h',toks:=t'}:=
 I.write (x:=a) (e:=a) d (.inl rfl) (λb q g z=>(hs.2 b g).trans z) f c
theorem Ux{P:Program}{w:World}{c:Hp}{h':Heap}{kvs:List (Key×V)}{vs:List (Key×Value)}(z:kvs.length<=sizeLine)(hd:(a == sysModules)=false)(rel:KV kvs vs)(b:h'.DictOf (d7 P w) a vs):
  cC P w c h' a (.dK kvs):=⟨z,hd,vs,rel,b⟩
end
section
variable {X:Cx}{pins:List (Addr×Obj)}{σ:St}{H:Hp}{s:Shared}{a:Addr}{kvs:List (Key×V)}{k:Key}{u:Value}{A:Around}{E:Value->Shared->Prop}
end
def Hx(i:Expr):Prop:=∀a b,subscripted i false a b=operate [a,b] (getItem a b)
theorem Uy{prog:Program}{w:World}{A:Around}{E:Value->Shared->Prop}{s:Shared}{env:Env}{value slice:Expr}{k:Pos}{T m:String}{Q:Value->Shared->Prop}
  (n:typeLookup (.type T) "__getitem__" = pure (some (.builtin m))) (hs:Hx slice)
  (h:wpAny (model prog w) A (eval value env) (λo d=>wpAny (model prog w) A (eval slice env) (λi a=>a.TypeIs o T/\wpAny (model prog w) A (getItem o i) Q E a) E d) E s):
  wpAny (model prog w) A (eval (.Subscript value slice k) env) Q E s:=by
 refine Subscript_ (zN h (λo d j=>zN j (λi a b=>?_) λ_ _ x=>x) λ_ _ x=>x);obtain⟨l,b⟩:=b;unfold subscriptTail;refine za ?_;rw[getitemInPython_of_ne l.not_modules];refine za (wpAny_specialOf l n ?_)
 have f:wpAny (model prog w) A (subscripted slice false o i) (λr c=>wpAny (model prog w) A (letTemporaryGo value o r >>= λ_=>pure r) Q E c) E a:=by
  rw[hs o i];exact wpAny_operating (zN b (λr c g=>za (wpAny_letTemporaryGo (zb g))) λ_ _ x=>x)
 first
  | exact zb (za f)
  | exact za (zb (za f))
  | exact za f
section
variable {X:Cx}{o i e value:Expr}{pos pos' tpos:Pos}{td ty tv:TE}
end
theorem Uz{P:Program}{w:World}{H:Hp}(h:Heap)(hb:sysModules<h.objs.size):cC P w H (h.push {cls:=.type "dict",data:=.dict #[]}) h.objs.size (.dK []):=
 ⟨Nat.zero_le _,beq_eq_false_iff_ne.mpr (Ne.symm (zp hb)),[],.nil,Heap.DictOf.new h⟩
section
variable {X:Cx}{pos:Pos}
end
def um:List (TE×TE)->St->Hp->(List (V×V)->Hp->Prop)->Prop
 | [],_,H,Q=>Q [] H
 | (tk,tv)::r,σ,H,Q=>tk σ H λx d=>tv σ d λy c=>um r σ c λa b=>Q ((x,y)::a) b
abbrev VV:List (V×V)->List (Value×Value)->Prop:=Paired λp q=>RelV p.1 q.1/\RelV p.2 q.2
def PPs(X:Cx)(b:Pos)(keys:List (Option Expr))(values:List Expr)(a:List (TE×TE)):Prop :=
 ∀(pins:List (Addr×Obj)) (s:Shared) (σ:St) (H:Hp) (Q:List (V×V)->Hp->Prop),Inv X pins σ H s->um a σ H Q ->
  wpAny (model X.prog X.w) X.A (evalPairs (pairTrees keys values X.env b)) (λf g=>∃c d,Inv X pins σ d g/\VV c f/\Q c d) X.xe s
theorem UG{X:Cx}{a:Pos}:PPs X a [] [] []:=λpins s σ H Q I h=>pairTrees_nil_walk ⟨[],H,I,.nil,h⟩
theorem UJ{X:Cx}{b:Pos}{k v:Expr}{ks:List (Option Expr)}{vs:List Expr}{tk c:TE}{a:List (TE×TE)}(f:PE X k tk)(hv:PE X v c)(d:PPs X b ks vs a):
  PPs X b (some k::ks) (v::vs) ((tk,c)::a):=λpins s σ H Q I h =>
 pairTrees_cons_walk (thn (f pins s σ H _ I h) λu s1 ⟨x,H1,I1,rx,q1⟩=>thn (hv pins s1 σ H1 _ I1 q1) λw2 s2 ⟨y,H2,I2,ry,q2⟩ =>
  thn (d pins s2 σ H2 _ I2 q2) λws s3 ⟨ps,H3,I3,rel,q3⟩=>⟨(x,y)::ps,H3,I3,.cons ⟨rx,ry⟩ rel,q3⟩)
def lN(kvs more:List (Key×V)):List (Key×V):=more.foldl (λa kv=>putK a kv.1 kv.2) kvs
theorem KV.merge:∀{more:List (Key×V)}{a:List (Key×Value)}{kvs:List (Key×V)}{vs:List (Key×Value)},KV more a->KV kvs vs->KV (lN kvs more) (merged vs a):=by
 intro more a kvs vs r;unfold KV at r
 induction r generalizing kvs vs with
 |nil=>intro q;exact q
 | @cons p q ps qs h t ih =>
  intro b
  have e:KV (putK kvs p.1 p.2) (stored vs q.1 q.2):=by
   have:=b.put p.1 h.2
   rw[<-h.1];exact this
  exact ih e
theorem Hy:∀(more kvs:List (Key×V)),(lN kvs more).length<=kvs.length+more.length
 | [],kvs=>by show kvs.length<=kvs.length+0;omega
 |p::r,kvs=>by
  have h1:=Hy r (putK kvs p.1 p.2);have h2:=Hs kvs p.1 p.2;show(lN (putK kvs p.1 p.2) r).length<=_;rw[zo];omega
theorem Hz{P:Program}{w:World}:∀{kvs:List (Key×V)}{f:List (Value×Value)},VV (kvs.map λkv=>(kV kv.1,kv.2)) f->∃d,Carries (d7 P w) f d/\KV kvs d
 | [],_,r=>by rw[zL] at r;cases r;exact⟨[],True.intro,.nil⟩
 |p::kvs,_,r=>by
  rw[zh] at r
  cases r with
  | @cons a b as bs h t =>
   obtain⟨d,c,q⟩:=Hz (P:=P) (w:=w) t;obtain⟨i,g⟩:=b;exact⟨(p.1,g)::d,⟨ug h.1,rfl,c⟩,.cons ⟨rfl,h.2⟩ q⟩
def UL(a:List (TE×TE)):TE:=λσ H Q=>∀p,H p=none->um a σ (upd H p (.dK [])) λc b=>b p=some (.dK [])/\∃kvs:List (Key×V),c=kvs.map (λkv=>(kV kv.1,kv.2))/\kvs.length<=15/\Q (.ref p) (upd b p (.dK (lN [] kvs)))
theorem UT{X:Cx}{d:Pos}{keys:List (Option Expr)}{values:List Expr}{b:List (TE×TE)}(h:PPs X d keys values b)(g:keys.all (·.isSome)=true)(t:keys.length=values.length)(h0:keys≠[])
  (i:keys.length<=15):PE X (.Dict keys values d) (UL b):=by
 intro pins s σ H Q I q;have r:=I.hok.fresh (zc s.heap.objs.size);have y:=I.laid (a:=s.heap.objs.size) (o:=.dK []) (h':=s.heap.push {cls:=.type "dict",data:=.dict #[]}) (t':=s.toks) (λ_ _ q=>zm _ q) (zc _) (Uz s.heap I.big);refine wpAny_Dict_walk (knd:=d7 X.prog X.w) g t h0 i (thn (h pins _ σ _ _ y (q _ r)) λws s2 ⟨ps,H2,I2,rel,e,kvs,ep,lk,q2⟩=>?_);subst ep;obtain⟨j,c,k⟩:=Hz (P:=X.prog) (w:=X.w) rel;obtain⟨z,hd,B,l,x⟩:=Uw I2.hok e;cases l;refine⟨j,c,x,λh' f n=>⟨.ref s.heap.objs.size,_,?_,rfl,q2⟩⟩
 have m:(lN [] kvs).length<=sizeLine:=by
  have h1:=Hy kvs [];rw[zJ] at h1;rw[sizeLine_eq];omega
 have u:∃q,h'.get? s.heap.objs.size=some q:=let ⟨q,_,_,hq,_⟩:=f;⟨q,hq⟩;exact Hw I2 (by rw[e];exact True.intro) n u (Ux m hd (k.merge .nil) f)
structure M1(X:Cx)(o:Expr)(m:Str)(apos:Pos)(e:Expr)(cpos:Pos):Prop where
 base:attributeBase o m X.env (eval o X.env)=eval o X.env
 few:((backTo cpos (starEach [e] X.env)).all (λx=>!x.1)&&(backToKw cpos (keywordEach [] X.env)).all (λx=>x.1.isSome)
  && decide (([e]:List Expr).length+([]:List Keyword).length+(if([]:List Keyword).isEmpty then 0 else 1)<30))=true
 line:(apos.endLine == cpos.line)=true
 trees:backTo cpos (starEach [e] X.env)=[(false,eval e X.env)]
structure M2(X:Cx)(o:Expr)(m:Str)(apos:Pos)(e f:Expr)(cpos:Pos):Prop where
 base:attributeBase o m X.env (eval o X.env)=eval o X.env
 few:((backTo cpos (starEach [e,f] X.env)).all (λx=>!x.1)&&(backToKw cpos (keywordEach [] X.env)).all (λx=>x.1.isSome)
  && decide (([e,f]:List Expr).length+([]:List Keyword).length+(if([]:List Keyword).isEmpty then 0 else 1)<30))=true
 line:(apos.endLine == cpos.line)=true
 trees:backTo cpos (starEach [e,f] X.env)=[(false,eval e X.env),(false,eval f X.env)]
def IsD(H:Hp)(a:Addr):Prop:=(∃kvs,Rd H a (.dK kvs))\/∃kvs,Rd H a (.dT kvs)
theorem UV{X:Cx}{pins:List (Addr×Obj)}{σ:St}{H:Hp}{s:Shared}{a:Addr}(I:Inv X pins σ H s)(d:IsD H a):
  s.TypeIs (.ref a) "dict"/\(∀b,Value.ref a=.ref b->∃ob,s.heap.get? b=some ob/\ob.dict=none)/\(a == sysModules)=false:=by
 rcases d with⟨kvs,e⟩ | ⟨kvs,e⟩
 ·obtain⟨_,hd,g,_,c⟩:=xH I.hok e;refine⟨c.typeIs,λb q=>?_,hd⟩;cases q;obtain⟨ob,_,_,h1,h2,_⟩:=c;exact⟨ob,h1,h2.2.1⟩
 ·obtain⟨_,hd,f,_,c⟩:=Hu I.hok e;refine⟨c.typeIs,λb q=>?_,hd⟩;cases q;obtain⟨ob,_,_,h1,h2,_⟩:=c;exact⟨ob,h1,h2.2.1⟩
section
variable {X:Cx}{pins:List (Addr×Obj)}{σ:St}{H:Hp}{s:Shared}{a:Addr}{y d:V}{u r:Value}{o:Option V}{A:Around}{E:Value->Shared->Prop}
theorem UW{Q:Value->Shared->Prop}(q:A.units+1<cLine)(I:Inv X pins σ H s)(g:Hv H a y o)(m:RelV y u)(rd:RelV d r)(h:∀i j,Inv X pins σ H j->RelV (o.getD d) i->Q i j):
  wpAny (model X.prog X.w) A (call (.builtin "dict.get") [.ref a,u,r]) Q E s:=by
 rcases g with⟨kvs,k,e,f,l⟩ | ⟨kvs,k,b,e,f,t,l⟩
 ·subst f;obtain⟨z,hd,x,rel,c⟩:=xH I.hok e;refine call_meetsIn PySem.F.slot_dict_get c.typeIs PySem.F.entry_dict_get (PySem.F.args_dict_get_3 _ _ _) (meets_dict_get_default (d7 X.prog X.w) a (ug m) hd r) ⟨_,c.mapOf,h _ _ (I.tok _) ?_⟩;rw[l];exact(rel.val k).getD rd
 ·subst f;cases(show u=Value.ref b from m);obtain⟨z,hd,n,rel,c⟩:=Hu I.hok e;refine call_meetsIn PySem.F.slot_dict_get c.typeIs PySem.F.entry_dict_get (PySem.F.args_dict_get_3 _ _ _) (meetsH_dict_get_default (tupleKind (d7 X.prog X.w)) a b hd r) ⟨tupleKind_room_in1 q,k,n,Ht I.hok t,c,h _ _ (I.tok _) ?_⟩;rw[l];exact(rel.val k).getD rd
end
def U0(f ty d:TE):TE:=λσ H Q=>f σ H λx c=>∃a,x=.ref a/\IsD c a/\ty σ c λy g=>d σ g λz b=>∃o,Hv b a y o/\Q (o.getD z) b
section
variable {X:Cx}{o e f:Expr}{apos cpos:Pos}{td ty tx:TE}
theorem U3(c:X.A.units+1<cLine)(i:PE X o td)(k:PE X e ty)(j:PE X f tx)(m:M2 X o "get" apos e f cpos):PE X (.Call (.Attribute o "get" apos) [e,f] [] cpos) (U0 td ty tx):=by
 intro pins s σ H Q I h;refine wpAny_Call_method m.base m.few m.line PySem.F.plainAttrs_dict PySem.F.slot_dict_get PySem.F.type_dict_get (thn (i pins s σ H _ I h) λu s1 ⟨x,H1,I1,rx,a,ex,d,q1⟩=>?_);subst ex;obtain rfl:u=Value.ref a:=rx;obtain⟨t1,t2,_⟩:=UV I1 d;refine⟨t1,t2,?_⟩;rw[m.trees]
 refine Calls.callWith_builtin rfl (Calls.evalArgs_plain (Calls.spliced_cons (thn (k pins s1 σ H1 _ I1 q1) λiv s2 ⟨y,H2,I2,ry,q2⟩ =>
  Calls.spliced_cons (thn (j pins s2 σ H2 _ I2 q2) λfv s3 ⟨z,H3,I3,rz,ov,g,q3⟩=>Calls.spliced_nil ?_))))
 exact UW c I3 g ry rz λn q l b=>⟨_,H3,l,b,q3⟩
end
section
variable {X:Cx}{pins:List (Addr×Obj)}{σ:St}{H:Hp}{s:Shared}{a:Addr}{kvs:List (Key×V)}{A:Around}{E:Value->Shared->Prop}
end
section
variable {X:Cx}{pins:List (Addr×Obj)}{σ:St}{H:Hp}{s:Shared}{a:Addr}{y:V}{u:Value}{A:Around}{E:Value->Shared->Prop}
end
section
variable {X:Cx}
end
section
variable {κ:Type}[DecidableEq κ]
end
def kh(cells:List (Str×Addr)):List (Str×NameKind)->List (Str×Addr)->List (Str×Addr)
 | [],acc=>acc
 | (n,k)::r,acc=>if k == .free then kh cells r ((n,(cells.lookup n).getD 0)::acc) else kh cells r acc
def lO(scope:Scope)(env:Env):List (Str×Addr):=kh env.cells scope.names []
theorem HB{scope:Scope}{env:Env}(d:∀y∈scope.names,y.2=.free->∃c,env.cells.lookup y.1=some c):closureFor scope env=pure (lO scope env):=by
 simp only[closureFor,lO]
 generalize ([]:List (Str×Addr))=f
 generalize scope.names=names at d
 induction names generalizing f with
 |nil=>rfl
 |cons y r ih =>
  obtain⟨n,k⟩:=y
  have g:=λa=>ih a λz h=>d z (zn _ h)
  by_cases b:k=.free
  ·obtain⟨c,i⟩:=d (n,k) zg b;have hc':env.cells.lookup n=some c:=i;subst b;simp only[List.forIn_cons,beq_self_eq_true,if_true,cellOf,hc',pure_bind,bind_assoc,kh,Option.getD_some];exact g _
  ·have j:(k == NameKind.free)=false:=by simpa using b
   simp only[List.forIn_cons,j,Bool.false_eq_true,if_false,pure_bind,bind_assoc,kh];exact g _
theorem xJ{cells:List (Str×Addr)}{x:Str}{c:Addr}:∀{names:List (Str×NameKind)}{acc:List (Str×Addr)},(kh cells names acc).lookup x=some c->acc.lookup x=some c\/(∃k,(x,k)∈names/\k=.free/\(cells.lookup x).getD 0=c)
 | [],acc,h=>.inl h
 | (n,k)::r,acc,h=>by
  unfold kh at h
  by_cases f:k=.free
  ·subst f;simp only[beq_self_eq_true,if_true] at h
   rcases xJ h with z | ⟨k,a,q⟩
   ·rw[List.lookup_cons] at z
    by_cases d:x=n
    ·subst d;simp at z;exact .inr ⟨.free,zg,rfl,z⟩
    ·have b:(x == n)=false:=by simpa using d
     rw[b] at z;exact .inl z
   ·exact .inr ⟨k,zn _ a,q⟩
  ·have b:(k == NameKind.free)=false:=by simpa using f
   simp only[b,Bool.false_eq_true,if_false] at h
   rcases xJ h with z | ⟨k,a,q⟩
   ·exact .inl z
   ·exact .inr ⟨k,zn _ a,q⟩
theorem uo{cells:List (Str×Addr)}{x:Str}:∀{names:List (Str×NameKind)}{acc:List (Str×Addr)},((∃c,acc.lookup x=some c)\/(x,NameKind.free)∈names)->∃c,(kh cells names acc).lookup x=some c
 | [],acc,h=>by
  rcases h with h | h
  ·exact h
  ·cases h
 | (n,k)::r,acc,h=>by
  unfold kh
  by_cases b:k=.free
  ·subst b;simp only[beq_self_eq_true,if_true];refine uo ?_
   by_cases a:x=n
   ·subst a;exact .inl ⟨(cells.lookup x).getD 0,by simp[List.lookup_cons]⟩
   ·have d:(x == n)=false:=by simpa using a
    rcases h with⟨c,h⟩ | h
    ·exact .inl ⟨c,by rw[List.lookup_cons,d];exact h⟩
    ·rcases zk.mp h with e | h
     ·cases e;exact absurd rfl a
     ·exact .inr h
  ·have d:(k == NameKind.free)=false:=by simpa using b
   simp only[d,Bool.false_eq_true,if_false];refine uo ?_
   rcases h with h | h
   ·exact .inl h
   ·rcases zk.mp h with e | h
    ·cases e;exact absurd rfl b
    ·exact .inr h
def jC(scope a:Scope):List (Str×NameKind):=
 scope.names.map λ(n,k)=>if(k == .free&&a.kind == .function&&a.names.lookup n == some .cell) then(n,.cell) else(n,k)
theorem HD{scope a:Scope}(g:∀y∈scope.names,y.2≠.cell){x:Str}{k:NameKind}(h:(jC scope a).lookup x=some k)(f:k=.cell\/k=.free):(x,NameKind.free)∈scope.names:=by
 have d:=PySem.mem_of_lookup h;unfold jC at d;obtain⟨⟨n,c⟩,h1,h2⟩:=zz.mp d;dsimp only at h2
 by_cases b:(c == NameKind.free&&a.kind == .function&&a.names.lookup n == some .cell)=true
 ·rw[if_pos b] at h2
  have e:c=.free:=by
   simp only[zr,beq_iff_eq] at b;exact b.1.1
  cases h2;rw[<-e];exact h1
 ·rw[if_neg b] at h2;cases h2
  rcases f with e | e
  ·exact absurd e (g _ h1)
  ·rw[<-e];exact h1
def cu(a own:List Str)(cap:List Nat):List Str:=own++cap.map λj=>a.getD j (Str.ofString "")
def compSt(own:List Str)(cap:List Nat)(σ:St):St:=own.map (λ_=>none)++cap.map λj=>(σ[j]?).join
def oM(a:Scope)(b:List Str)(scope:Scope)(own:List Str)(cap:List Nat):Bool :=
 (scope.kind == .function)&&scope.names.all (λy=>y.2 != .cell)&&scope.names.all (λy=>y.2 != .local || scope.names.lookup y.1 == some .local) &&
 scope.names.all (λy=>y.2 != .free || a.names.lookup y.1 == some .cell || a.names.lookup y.1 == some .free) &&
 cap.all λj=>decide (j<b.length)&&scope.names.contains (b.getD j (Str.ofString ""),NameKind.free)&&((jC scope a).lookup (b.getD j (Str.ofString "")) == some .cell || (jC scope a).lookup (b.getD j (Str.ofString "")) == some .free)
structure kj(sc0:Scope)(N0:List Str)(scope:Scope)(own:List Str)(cap:List Nat):Prop where
 kind:scope.kind=.function
 nocell:∀y∈scope.names,y.2≠.cell
 names:∀y∈scope.names,y.2=.local->scope.names.lookup y.1=some .local
 free:∀y∈scope.names,y.2=.free->sc0.names.lookup y.1=some .cell\/sc0.names.lookup y.1=some .free
 cap:∀j∈cap,j<N0.length/\(N0.getD j (Str.ofString ""),NameKind.free)∈scope.names/\((jC scope sc0).lookup (N0.getD j (Str.ofString ""))=some .cell\/(jC scope sc0).lookup (N0.getD j (Str.ofString ""))=some .free)
theorem kj.of{d:Scope}{g:List Str}{scope:Scope}{own:List Str}{cap:List Nat}(h:oM d g scope own cap=true):kj d g scope own cap:=by
 unfold oM at h;simp only[zr,List.all_eq_true,beq_iff_eq,bne_iff_ne,ne_eq,Bool.or_eq_true,decide_eq_true_eq,List.contains_iff_mem] at h;obtain⟨⟨⟨⟨h1,h2⟩,h3⟩,h4⟩,k⟩:=h;refine⟨h1,h2,λy f e=>?_,λy f e=>?_,λj i=>?_⟩
 ·rcases h3 y f with z | z
  ·exact absurd e z
  ·exact z
 ·rcases h4 y f with(z | z) | z
  ·exact absurd e z
  ·exact .inl z
  ·exact .inr z
 ·obtain⟨⟨a,b⟩,c⟩:=k j i;exact⟨a,b,c⟩
def cN(X:Cx)(scope:Scope)(C:Addr)(N':List Str)(s:Shared)(H:Hp)(ex:List Addr):Cx where
 prog:=X.prog
 w:=X.w
 K:=X.K
 mg:=X.mg
 base:=X.base
 A:=X.A
 N:=N'
 s₀:=s
 H₀:=H
 env:=compEnvC scope (lO scope X.env) C X.env
 outer:=X.stack
 stack:=X.stack
 ex:=ex
 fn:=λ_=>false
 calm:=X.calm
 pn:=[]
 xe:=λ_ _=>False
section
variable {X:Cx}
def lQ(X:Cx)(a:List Expr)(t:TT):Prop :=
 ∀(pins:List (Addr×Obj)) (s:Shared) (σ:St) (H:Hp) (Q:Bool->Hp->Prop),Inv X pins σ H s->t σ H Q ->
  wpAny (model X.prog X.w) X.A (forIn a true λc r=>if r=true then do let ok <-isTrue c X.env (eval c X.env);pure (ForInStep.yield ok) else pure (ForInStep.yield r)) (TP X pins σ Q) X.xe s
def U4:TT:=λ_ H Q=>Q true H
theorem U5:lQ X [] U4:=λ_ _ _ H _ I h=>wpAny_tests_nil ⟨H,I,h⟩
theorem U6{c:Expr}{t:TT}(h:PT X c t):lQ X [c] t:=λpins s σ H Q I q=>wpAny_tests_one (h pins s σ H Q I q)
end
def HF(J:It)(g:TG)(k:TT)(l:TE)(Q:List V->Hp->Prop)(h:St)(r:Hp):Prop :=
 ∃W:Nat->Nat->List V->St->Hp->Prop,(∃m,W 0 m [] h r)/\∀i m c σ H,W i m c σ H ->
  (J.stop i H/\Q c H)\/(J.go i H/\c.length<sizeLine/\∃N:List V->St->Hp->Prop,(∀c f d,N c f d->∃j,j<m/\W (i+1) j c f d)/\∀x d,J.yld i H x d->g x σ d λa q=>k a q λb H3 =>
   if b=true then l a H3 λy n=>N (c++[y]) a n else N c a H3)
def xK(c:TI)(own:List Str)(cap:List Nat)(g:TG)(d:TT)(f:TE):TE:=λσ H Q =>
 c σ H λJ h=>HF J g d f (λa b=>a.length<=sizeLine/\∀p,b p=none->Q (.ref p) (upd b p (.lst a))) (compSt own cap σ) h
section
variable {prog:Program}{w:World}{A:Around}{R:Result->Shared->Prop}{s:Shared}
theorem U7{t target iter:Expr}{q:List Expr}{scope:Scope}{y:Pos}{it acc:Value}{env:Env}(I:Nat->Shared->Prop)
  (turn:∀n s,I n s->wpAny (model prog w) A (pyNext it) (λr d=>match r with
   |none=>R (.ok .next) d
   |some v=>wpAny (model prog w) A (letOwnedTupleGo target it v) (λ_ f=>wpAny (model prog w) A (assign target env v) (λ_ j =>
     wpAny (model prog w) A (forIn q true λc r=>if r=true then do let ok <-isTrue c env (eval c env);pure (ForInStep.yield ok) else pure (ForInStep.yield r)) (λok b =>
      if ok=true then wpAny (model prog w) A (eval t env) (λx i =>
       wpAny (model prog w) A (call (.builtin "list.append") [acc,x]) (λ_ g=>∃m,m<n/\I m g) (λ_ _=>False) i) (λ_ _=>False) b
      else ∃m,m<n/\I m b) (λ_ _=>False) j) (λ_ _=>False) f) (λ_ _=>False) d) (λ_ _=>False) s)
  (n:Nat) (h:I n s):
  codeAny (model prog w) A (.compLoop (.ListComp t [⟨target,iter,q,0⟩] scope y) 0 it acc env) R s:=by
 refine codeAny_loop rfl I (λn s F=>?_) n h;show wpAny _ A ((compTurn (.ListComp t [⟨target,iter,q,0⟩] scope y) 0 it acc env).onRaise (λx=>do noteFrame x env;theTreesLotGoes x)) _ _ s;refine wpAny_noted ?_;rw[compTurn_list];refine za (wpAny_standAt (za (zN (turn n s F) (λr d l=>?_) λ_ _ a=>a.elim)))
 cases r with
 |none=>exact zb l
 |some v =>
  refine za (zN l (λ_ f u=>?_) λ_ _ a=>a.elim);refine za (zN u (λ_ j E=>za (zN E (λok b k=>?_) λ_ _ a=>a.elim)) λ_ _ a=>a.elim)
  cases ok with
  |false=>exact zb ⟨rfl,k⟩
  |true =>
   exact za (za (zN k (λx i C=>za (zN C (λ_ g B=>zb (zb ⟨rfl,B⟩)) λ_ _ a=>a.elim)) λ_ _ a=>a.elim))
end
section
variable {X:Cx}{pins:List (Addr×Obj)}{σ:St}{s2:Shared}{H2:Hp}{elt tg iter:Expr}{ifs:List Expr}{scope:Scope}{pos:Pos}{g:TG}{tt:TT}{te:TE}{sc0:Scope}{N0 own:List Str}{cap:List Nat}
 {it:Addr}{fp:List Addr}{tn:Nat->Heap->Prop}{J:It}
theorem xN(d:Inv X pins σ H2 s2)(a:X.env.scope=sc0)(ok:kj sc0 N0 scope own cap):∀y∈scope.names,y.2=.free->∃c,X.env.cells.lookup y.1=some c:=λy b e=>by
 refine d.ok.has y.1 ?_;have q:=ok.free y b e;rw[<-a] at q;exact q
theorem lR(i:Inv X pins σ H2 s2)(a:X.env.scope=sc0)(ok:kj sc0 N0 scope own cap){x:Str}{c:Addr}(h:(lO scope X.env).lookup x=some c):X.env.cells.lookup x=some c:=by
 rcases xJ h with z | ⟨k,b,d,q⟩
 ·simp at z
 ·obtain⟨f,e⟩:=xN i a ok (x,k) b d;have e':X.env.cells.lookup x=some f:=e;rw[e'] at q;rw[e',<-q];rfl
theorem U8(a:Inv X pins σ H2 s2)(f:X.env.scope=sc0)(ok:kj sc0 N0 scope own cap)(T:Turn X.prog X.w X.K tg J fp it tn)(j:tn 0 s2.heap)(i:∀b∈fp,f9 X pins H2 b)
  (C:Addr) (k:s2.heap.objs.size<=C):(cN X scope C (cu N0 own cap) s2 H2 fp).Ok:=by
 have lt:∀b∈fp,b<s2.heap.objs.size:=λb d=>by
  obtain⟨o,e,_⟩:=T.obj 0 _ j b d;exact zj e
 have rel:(relabel scope X.env).names=jC scope sc0:=by rw[<-f];rfl
 refine⟨a.ok.mod,ok.kind,a.ok.glob,a.ok.blt,k,λx y c h1 h2=>?_,λx m=>?_,λx c hf _=>absurd hf (by simp[cN]),a.ok.hd,a.ok.frames,.inl rfl,λb d=>⟨?_,λx c h=>?_⟩,a.bs,zG a.ok.bsz a.sz,
  λb o e d=>?_,λb d l=>?_,a.stack,a.stkFree⟩
 ·exact a.ok.inj x y c (lR a f ok h1) (lR a f ok h2)
 ·have hx':(jC scope sc0).lookup x=some .cell\/(jC scope sc0).lookup x=some .free:=by rw[<-rel];exact m
  have n:(x,NameKind.free)∈scope.names:=by
   rcases hx' with q | q
   ·exact HD ok.nocell q (.inl rfl)
   ·exact HD ok.nocell q (.inr rfl)
  exact uo (.inr n)
 ·exact zp (zF (lt b d) k)
 ·exact(i b d).2.2.2.2.1 x c (lR a f ok h)
 ·rcases(i b d).2.2.2.1 with z | z
  ·exact a.ok.noex b o e z
  ·exact absurd (zF (zj e) (zG a.ok.bsz z)) (zQ _)
 ·rcases zk.mp (a.stkSub b l) with z | z
  ·exact(i b d).2.1 z
  ·exact(i b d).2.2.1 z
theorem U9(f:Inv X pins σ H2 s2)(a:X.env.scope=sc0)(I:X.N=N0)(ok:kj sc0 N0 scope own cap)(T:Turn X.prog X.w X.K tg J fp it tn)(G:tn 0 s2.heap)(Y:∀b∈fp,f9 X pins H2 b)
  (C:Addr) (Q:s2.heap.objs.size<=C) {d:Heap}{tk:Nat}{m:Str->Option Value} (k:∀b o,s2.heap.get? b=some o->d.get? b=some o) (H:d.Ns C m):
  Inv (cN X scope C (cu N0 own cap) s2 H2 fp) [] (compSt own cap σ) H2 {s2 with heap:=d,toks:=tk}:=by
 have rel:(relabel scope X.env).names=jC scope sc0:=by rw[<-a];rfl
 refine⟨U8 f a ok T G Y C Q,rfl,f.bare,Un.kept k,⟨m,H,λi x v e1 e2 _=>?_⟩,λx c h=>?_,f.hok.fresh Q,λx c h=>?_,λp R=>absurd (show p∈([]:List (Addr×Obj)) from R) (by simp),f.hok.kept k,?_⟩
 ·have e1':(cu N0 own cap)[i]?=some x:=e1;unfold cu at e1';unfold compSt at e2
  by_cases F:i<own.length
  ·rw[zC (by simpa using F),zA] at e2
   cases q:own[i]? with
   |none=>rw[q] at e2;cases e2
   |some z=>rw[q] at e2;cases e2
  ·rw[zK (by simpa using F),zA] at e2;rw[zK (by simpa using F),zA] at e1';rw[ze] at e2
   cases q:cap[i - own.length]? with
   |none=>rw[q] at e2;cases e2
   |some j =>
    rw[q] at e1' e2;have ex:N0.getD j (Str.ofString "")=x:=zD e1';have n:(σ[j]?).join=some v:=zD e2;obtain⟨P,E,O⟩:=ok.cap j (zH q);rw[ex] at E O
    have Z:X.N[j]?=some x:=by
     rw[I,zx P];rw[jr,zx P] at ex;exact congrArg some ex
    have L:σ[j]?=some (some v):=by
     cases z:σ[j]? with
     |none=>rw[z] at n;cases n
     |some o=>rw[z] at n;cases o with
      |none=>cases n
      |some y=>exact congrArg some n
    have kf:X.env.kindOf x=some .cell\/X.env.kindOf x=some .free:=by
     have z:=ok.free _ E rfl;rw[<-a] at z;exact z
    obtain⟨m0,hn0,U⟩:=f.loc;obtain⟨u,r,l⟩:=U j x v Z L (kf.elim (λz=>.inr (.inl z)) λz=>.inr (.inr z));refine⟨u,r,.inr ⟨?_,?_⟩⟩
    ·show(relabel scope X.env).names.lookup x=_\/(relabel scope X.env).names.lookup x=_;rw[rel];exact O
    ·rcases l with⟨l,_⟩ | ⟨_,c,W,⟨o,B,hd⟩⟩
     ·rcases kf with z | z<;>(rw[z] at l;cases l)
     ·obtain⟨c',t⟩:=uo (cells:=X.env.cells) (names:=scope.names) (acc:=[]) (.inr E);have z:=lR f a ok t;rw[W] at z;cases z;exact⟨c,t,o,k _ _ B,hd⟩
 ·obtain⟨v,o,B,hd⟩:=f.cell x c (lR f a ok h);exact⟨v,o,k _ _ B,hd⟩
 ·exact f.freeC x c (lR f a ok h)
 ·show(compSt own cap σ).length=(cu N0 own cap).length;unfold compSt cu;simp
theorem HH{Q:List V->Hp->Prop}{RR:Value->Addr->Result->Shared->Prop}{E:Value->Shared->Prop}(hc:X.calm=true)(Z:Inv X pins σ H2 s2)(hsc:X.env.scope=sc0)(hN0:X.N=N0)(ok:kj sc0 N0 scope own cap)
  (hg:∀C s H ex,PG (cN X scope C (cu N0 own cap) s H ex) tg g) (ht:∀C s H ex,lQ (cN X scope C (cu N0 own cap) s H ex) ifs tt) (he:∀C s H ex,PE (cN X scope C (cu N0 own cap) s H ex) elt te)
  (T:Turn X.prog X.w X.K tg J fp it tn) (st2:tn 0 s2.heap) (f2:∀b∈fp,f9 X pins H2 b) (hW:HF J g tt te Q (compSt own cap σ) H2)
  (hRR:∀D C oC ys B P,Inv X (pins++[(C,oC)]) σ (upd B D (.lst ys)) P->(∀h:Heap,h.get? C=some oC->∃m,h.Ns C m)->f9 X pins (upd B D (.lst ys)) C->B D=none->Q ys B->RR (.ref D) C (.ok .next) P)
  (hQsz:∀ys B,Q ys B->ys.length<=sizeLine):
  wpAny (model X.prog X.w) X.A (newList []) (λacc L=>wpAny (model X.prog X.w) X.A (newFunctionEnv scope X.env.globals (lO scope X.env) [] X.env.qual none .none (some X.env)) (λcenv s₄ =>
   codeAny (model X.prog X.w) X.A (.compStart (.ListComp elt [⟨tg,iter,ifs,0⟩] scope pos) 0 (.ref it) acc {cenv with scope:=relabel scope X.env}) (RR acc cenv.locals) s₄) E L) E s2:=by
 refine wpAny_newObj_type (wpAny_newFunctionEnv ok.nocell (by intro y hy;simp at hy) (λR G l=>?_) ok.kind);dsimp only at G l ⊢
 generalize hP2:s2.heap.push {cls:=.type "list",dict:=none,data:=.seq ([]:List Value).toArray}=t at G l ⊢
 have hC:t.objs.size=s2.heap.objs.size+1:=by rw[<-hP2,Heap.size_push]
 have hDC:s2.heap.objs.size≠t.objs.size:=by rw[hC];exact zp (zY _)
 have hCle:s2.heap.objs.size<=t.objs.size:=by rw[hC];exact Nat.le_succ _
 have below:∀b,b<s2.heap.objs.size->b≠t.objs.size/\b≠s2.heap.objs.size:=λb j=>⟨by rw[hC];exact zp (je j),zp j⟩
 have ltf:∀b∈fp,b<s2.heap.objs.size:=λb j=>by
  obtain⟨o,e,_⟩:=T.obj 0 _ st2 b j;exact zj e
 have old:∀b o,s2.heap.get? b=some o->R.get? b=some o:=λb o e=>l.extBut b o (below b (zj e)).1 (zm _ (hP2 ▸ zm _ e))
 have hacc:R.PlainList s2.heap.objs.size #[]:=⟨_,l.extBut _ _ hDC (zm _ (hP2 ▸ zw _ rfl))⟩
 have st₁:tn 0 R:=T.keep _ _ _ st2 λb _ o e=>old b o e
 have hDno:∀b∈fp,s2.heap.objs.size≠b:=λb j=>(below b (ltf b j)).2.symm
 generalize hXe:cN X scope t.objs.size (cu N0 own cap) s2 H2 fp=X'
 have loop:∀L:Shared,L = {s2 with heap:=R,toks:=s2.toks+([]:List (Str×Value)).length} ->
   codeAny (model X.prog X.w) X.A (.compLoop (.ListComp elt [⟨tg,iter,ifs,0⟩] scope pos) 0 (.ref it) (.ref s2.heap.objs.size) (compEnvC scope (lO scope X.env) t.objs.size X.env))
    (RR (.ref s2.heap.objs.size) t.objs.size) L:=by
  rintro L rfl;obtain⟨W,⟨m0,w0⟩,turn⟩:=hW;subst hXe
  have stat:∀{B:Hp}{oD:Obj},(∀b∈fp,B b=none)->∀b∈fp,f9 (cN X scope t.objs.size (cu N0 own cap) s2 H2 fp) [(s2.heap.objs.size,oD)] B b:=λ{B oD} hn b j =>
   ⟨hn b j,(below b (ltf b j)).1,λz=>by
    rcases zk.mp (Z.stkSub b z) with z | z
    ·exact(f2 b j).2.1 z
    ·exact(f2 b j).2.2.1 z,.inl j,λx c h=>(f2 b j).2.2.2.2.1 x c (lR Z hsc ok h),λp hp=>by
    have e:p=(s2.heap.objs.size,oD):=by simpa [cN] using hp
    rw[e];exact hDno b j⟩
  have notcell:∀x c,(lO scope X.env).lookup x=some c->c≠s2.heap.objs.size:=λx c h z=>by
   obtain⟨v,o,ho,hd⟩:=Z.cell x c (lR Z hsc ok h);exact absurd (zj ho) (by rw[z];exact zQ _)
  have nofs:s2.heap.objs.size∉frs X.stack:=λz=>by
   rcases zk.mp (Z.stkSub _ z) with z | z
   ·exact absurd Z.lt (by rw[z];exact zQ _)
   ·exact Z.nofs (zc _) z
  have pinD:∀{F:St}{B:Hp}{P:Shared}{f:Array Value}{k:Nat},Inv (cN X scope t.objs.size (cu N0 own cap) s2 H2 fp) [] F B P->B s2.heap.objs.size=none ->
    P.heap.get? s2.heap.objs.size=some {cls:=.type "list",data:=.seq f k}->Inv (cN X scope t.objs.size (cu N0 own cap) s2 H2 fp) [(s2.heap.objs.size,{cls:=.type "list",data:=.seq f k})] F B P :=
   λ{F B P f k} I hn hd=>I.pins_of λp hp=>by
    have e:p=(s2.heap.objs.size,{cls:=.type "list",data:=.seq f k}):=by simpa using hp
    subst e;exact⟨hd,hn,hDC,nofs,λv z=>by cases z⟩
  obtain⟨k0,hk0⟩:=hacc;refine U7 (env:=compEnvC scope (lO scope X.env) t.objs.size X.env)
   (λn P=>∃i ys f k F B,Inv (cN X scope t.objs.size (cu N0 own cap) s2 H2 fp) [(s2.heap.objs.size,{cls:=.type "list",data:=.seq f k})] F B P/\tn i P.heap/\(∀b∈fp,B b=none)/\aW ys f.toList/\W i n ys F B) ?_ m0
   ⟨0,[],#[],k0,_,H2,pinD (U9 Z hsc hN0 ok T st2 f2 _ hCle old G) (Z.hok.fresh (zc _)) hk0,st₁,λb j=>(f2 b j).1,.nil,w0⟩
  rintro n s3 ⟨i,ys,f,k,σ3,H3,I3,st3,fr3,hv,w3⟩
  rcases turn i n ys σ3 H3 w3 with⟨stop,qn⟩ | ⟨go,hsz,N,hN,step⟩
  ·refine thn (T.done (cN X scope t.objs.size (cu N0 own cap) s2 H2 fp) rfl rfl rfl hc i _ s3 σ3 H3 _ I3 (stat fr3) st3 stop) λr s4 ⟨hr,Y⟩=>?_
   subst hr;show RR _ _ (.ok .next) s4;obtain⟨hd4,O,_⟩:=Y.pin (s2.heap.objs.size,{cls:=.type "list",data:=.seq f k}) (by simp[cN]);dsimp only at hd4 O;obtain⟨m4,hns4,_⟩:=id Y.loc;have hns4':s4.heap.Ns t.objs.size m4:=hns4;obtain⟨oC,es,ep,hoC,rC⟩:=id hns4';have cne:t.objs.size≠s2.heap.objs.size:=hDC.symm;have freeC:H3 t.objs.size=none:=Y.free;have U:f9 X pins (upd H3 s2.heap.objs.size (.lst ys)) t.objs.size:=Z.fpOk hCle (by rw[aQ cne];exact freeC)
   have hlen:ys.length=f.size:=by have e:=hv.length;simpa using e
   have I5:Inv X pins σ (upd H3 s2.heap.objs.size (.lst ys)) s4:=by
    refine Z.call' (ch:=fp) Y.os ⟨Y.base.keep,Y.base.slot,λb o e n hx=>?_,Y.base.there,λb xs e=>?_,λb o u e=>?_,λb ps e=>?_⟩ (λb u e=>?_) Y.bare λb j=>?_
    ·rw[aQ (zp (zj e))];exact Y.base.free b o e n hx
    ·have q:=Y.base.tups b xs e;rw[aQ (cI q O)];exact q
    ·have q:=Y.base.frzs b o u e;rw[aQ (cI q O)];exact q
    ·obtain⟨more,q⟩:=Y.base.tbls b ps e;exact⟨more,by rw[aQ (cI q O)];exact q⟩
    ·by_cases j:b=s2.heap.objs.size
     ·subst j;rw[cg] at e;cases e;exact⟨hQsz ys H3 qn,f.toList,k,hv,by simpa using hd4⟩
     ·rw[aQ j] at e
      exact(Y.hok b u e).stay (λ_ _ _ q=>q) (λc q=>by rw[aQ (cI q O)];exact q) λc xs q=>by rw[aQ (cI q O)];exact q
    ·obtain⟨_,a2,_,a4,a5,a6⟩:=f2 b j;exact⟨a4,a2,a5,a6⟩
   refine hRR s2.heap.objs.size t.objs.size oC ys H3 s4 (I5.pins_of λp hp=>?_) (λh e=>⟨m4,oC,es,ep,e,rC⟩) U O qn
   rcases zE.mp hp with z | z
   ·exact I5.pin p (zR _ z)
   ·have e:p=(t.objs.size,oC):=by simpa using z
    subst e
    exact⟨hoC,U.1,U.2.1,U.2.2.1,λv z=>by
     have:=rC.1
     rw[this] at z;cases z⟩
  ·refine thn (T.item (cN X scope t.objs.size (cu N0 own cap) s2 H2 fp) rfl rfl rfl hc i _ s3 σ3 H3 _ I3 (stat fr3) st3 go) λr s4 ⟨u,hr,h4⟩=>?_
   subst hr
   refine thn h4 λ_ s5 ⟨x,H5,I5,r5,y5,st5,fr5⟩=>?_
   have I5':=I5.pinned (stat fr5) (T.obj _ _ st5)
   refine thn (hg _ _ _ _ _ s5 σ3 H5 x u _ I5' r5 (step x H5 y5)) λ_ s6 ⟨σ6,H6,I6,q6⟩=>?_
   refine thn (ht _ _ _ _ _ s6 σ6 H6 _ I6 q6) λb s7 ⟨H7,I7,q7⟩=>?_
   have keepT:∀{F:St}{B:Hp}{P:Shared},Inv (cN X scope t.objs.size (cu N0 own cap) s2 H2 fp) ([(s2.heap.objs.size,{cls:=.type "list",data:=.seq f k})]++qG fp s5.heap) F B P->tn (i+1) P.heap/\∀b∈fp,B b=none:=λ{F B P} I'=>by
    refine⟨T.keep _ _ _ st5 λb j o e=>(I'.pin (b,o) (zR _ (zR _ (uc j e)))).1,λb j=>?_⟩;obtain⟨o,e,d⟩:=T.obj _ _ st5 b j;exact(I'.pin (b,o) (zR _ (zR _ (uc j e)))).2.1
   cases b with
   |false =>
    rw[if_neg zf] at q7 ⊢;obtain⟨m',hm,w7⟩:=hN _ _ _ q7;obtain⟨a,b⟩:=keepT I7;exact⟨m',hm,i+1,ys,f,k,σ6,H7,I7.unpinned,a,b,hv,w7⟩
   |true =>
    rw[if_pos rfl] at q7 ⊢
    refine thn (he _ _ _ _ _ s7 σ6 H7 _ I7 q7) λv s8 ⟨y,H8,I8,r8,q8⟩=>?_
    obtain⟨m',hm,w8⟩:=hN _ _ _ q8;obtain⟨a,b⟩:=keepT I8;obtain⟨hd8,hn8,_⟩:=I8.pin (s2.heap.objs.size,{cls:=.type "list",data:=.seq f k}) (by simp[cN]);dsimp only at hd8 hn8
    have hl:f.size<=sizeLine:=by
     have e:=hv.length;simp at e;omega
    refine wpAny_list_append_plain (hsz:=hl) ⟨k,hd8⟩ λh9 hl9 hs9=>?_
    obtain⟨k9,hd9⟩:=hl9
    have I8':Inv (cN X scope t.objs.size (cu N0 own cap) s2 H2 fp) [] σ6 H8 s8:=I8.pins_of λp hp=>absurd hp (by simp)
    have I9:Inv (cN X scope t.objs.size (cu N0 own cap) s2 H2 fp) [] σ6 H8 {s8 with heap:=h9}:=
     I8'.turned (t':=s8.toks) (it:=s2.heap.objs.size) (λb o j e=>hs9.extBut b o j e) hn8 hDC (.inr (zc _)) notcell (λp hp=>absurd (show p∈([]:List (Addr×Obj)) from hp) (by simp))
    refine⟨m',hm,i+1,ys++[y],f.push v,k9,σ6,H8,pinD I9 hn8 hd9,T.keep _ _ _ a λb j o e=>hs9.extBut b o (hDno b j).symm e,b,?_,w8⟩;rw[Array.toList_push];exact hv.append (.cons r8 .nil)
 exact codeAny_compStart_list (loop _ rfl) (T.self _ 0 _ _ _ st₁ (loop _ rfl))
theorem Va{n:TI}(sc0:Scope)(N0 own:List Str)(cap:List Nat)(P:X.calm=true)(G:PI X tg iter n)
  (L:∀C s H ex,PG (cN X scope C (cu N0 own cap) s H ex) tg g) (B:∀C s H ex,lQ (cN X scope C (cu N0 own cap) s H ex) ifs tt) (O:∀C s H ex,PE (cN X scope C (cu N0 own cap) s H ex) elt te)
  (a:X.env.scope=sc0:=by rfl) (i:X.N=N0:=by rfl) (ok:oM sc0 N0 scope own cap=true:=by decide +kernel) (E:∀x,foldedSetIterable iter X.env x=pure x:=by intro _;rfl):
  PE X (.ListComp elt [⟨tg,iter,ifs,0⟩] scope pos) (xK n own cap g tt te):=by
 intro pins s σ H Q I h;have ok:=kj.of ok;rw[eval_ListComp];refine wpAny_comprehension_free (use:=none) rfl E (HB (xN I a ok)) ok.kind ok.names (thn (G pins s σ H _ I h) λxv s1 h1=>thn h1 λitv s2 h2=>?_);obtain⟨it,fp,tn,J,H2,e,I2,T,c,f2,U⟩:=h2;subst e
 refine HH (RR:=λk C=>compPost (model X.prog X.w) X.A X.xe none (EP X pins σ Q) k C) P I2 a i ok L B O T c f2 U (λD C y l t u r f j W q=>?_) λl t q=>q.1
 obtain⟨Y,hCn,_⟩:=r.pin (C,y) (by simp);obtain⟨m,F⟩:=f _ Y;refine⟨m,F,λh' d=>⟨.ref D,upd t D (.lst l),?_,rfl,q.2 D W⟩⟩;obtain⟨f0,f1,f2',f3,f4,Z⟩:=j;exact r.unpinned.turned (t':=u.toks) (it:=C) (λb o R e=>d.extBut b o R e) f0 f1 f3 f4 Z
theorem Vb{F:TI}{i:Nat}{x:Str}{pos' a:Pos}(sc0:Scope)(N0 own:List Str)(cap:List Nat)(hN:X.N.Nodup)(O:X.N[i]?=some x)(Y:Loc X.env.scope x)(hc:X.calm=true)(Z:PI X tg iter F)
  (hg:∀C s H ex,PG (cN X scope C (cu N0 own cap) s H ex) tg g) (P:∀C s H ex,lQ (cN X scope C (cu N0 own cap) s H ex) ifs tt) (he:∀C s H ex,PE (cN X scope C (cu N0 own cap) s H ex) elt te)
  (n:swapsWith (.ListComp elt [⟨tg,iter,ifs,0⟩] scope pos) (some (.Name x pos')) a.line X.env=pure true:=by rfl)
  (hf:X.fn x=true\/X.env.scope.names.lookup x=some .local:=by first | exact .inl rfl | exact .inr rfl | assumption)
  (f:X.env.scope=sc0:=by rfl) (u:X.N=N0:=by rfl) (ok:oM sc0 N0 scope own cap=true:=by decide +kernel) (R:∀x,foldedSetIterable iter X.env x=pure x:=by intro _;rfl):
  PS X (.Assign [.Name x pos'] (.ListComp elt [⟨tg,iter,ifs,0⟩] scope pos) a) (t8 (xK F own cap g tt te) (qF i)):=by
 intro pins s σ H D I h;have ok:=kj.of ok;rw[exec_Assign_Name_used _ _ _ _ n];refine za (wpAny_standAt (za ?_));show wpAny _ X.A (do let _ <-comprehension (.ListComp elt [⟨tg,iter,ifs,0⟩] scope pos) scope X.env _ (newList []) false (eval iter X.env) (some (assign (.Name x pos') X.env))) _ _ s
 refine za (zN (wpAny_comprehension_free (use:=some (assign (.Name x pos') X.env)) (Q:=λ_ c=>SP X pins D .next c) rfl R (HB (xN I f ok)) ok.kind ok.names
  (thn (Z pins s σ H _ I h) λxv s1 h1=>thn h1 λitv s2 h2=>?_)) (λ_ c U=>zb (zb U)) λ_ _ e=>e)
 obtain⟨it,fp,tn,J,H2,e,I2,T,k,f2,hW⟩:=h2;subst e
 refine HH (RR:=λB C=>compPost (model X.prog X.w) X.A X.xe (some (assign (.Name x pos') X.env)) (λ_ c=>SP X pins D .next c) B C) hc I2 f u ok hg P he T k f2 hW (λd C L E G c I' t y hD q=>?_) λE G q=>q.1
 show wpAny _ X.A (assign (.Name x pos') X.env (.ref d)) _ _ _;refine wpAny_assign_Name (wU (v:=.ref d) I' hN O Y rfl (λl j=>?_) hf);obtain⟨hC,hCn,_⟩:=j.pin (C,L) (by simp);obtain⟨m,W⟩:=t _ hC;refine⟨m,W,λh' r=>⟨σ.set i (some (.ref d)),upd G d (.lst E),?_,q.2 d hD⟩⟩;obtain⟨f0,f1,f2',f3,f4,f5⟩:=y;exact j.unpinned.turned (t':=l.toks) (it:=C) (λb o hb e=>r.extBut b o hb e) f0 f1 f3 f4 f5
end
def Can(P:Program)(w:World)(K:PySem.W.Frag)(mg:Str->Option Value)(base:Heap)(x:Str)(ps:List Str)(k:Nat)(sp:Sp):Prop :=
 ∃f fd,mg x=some (.ref f)/\PySem.W.keepIn K (.ref f)=true/\Binds K fd ps []/\dq P w K mg base CX0 k f fd ps sp/\∃c b a,K.lookup f=some ⟨c,b,.func fd,a⟩
def Def(K:PySem.W.Frag)(mg:Str->Option Value)(x:Str)(st:Stmt):Prop:=∃f fd,mg x=some (.ref f)/\Fun K x x st f fd
section
variable {P:Program}{w:World}{K:PySem.W.Frag}{mg:Str->Option Value}{base:Heap}
theorem Def.can{x:Str}{st:Stmt}{N ps:List Str}{k:Nat}{sp:Sp}(D:Def K mg x st)(S:bH N ps (aY st))
  (hb:∀(kV d pm:Value) (m:Option Addr) (a ct:Value) (us:List Value),us.length=ps.length->bindArgs (PySem.W.fnOf x x (gY st) (eO st) (aY st) .none kV d pm m a ct) ⟨us,[]⟩=pure (ps.zip us))
  (len:∀vs H Q E,sp vs H Q E->vs.length=ps.length)
  (b:∀(f:Addr) (a:Value) (A:Around) (outer:List Env) (s:Shared) (H:Hp) (vs:List V) (Q:VK) (E:XK),bC k (A.deeper (envOfC x (aY st) s.heap.objs.size f a))->sp vs H Q E ->
   ∃t,PSs (iG CX0 P w K mg base N x (aY st) f a A outer s H E).nox (eO st) t/\t {nx:=λ_ n=>Q .non n,rt:=Q} (start N vs) H):Can P w K mg base x ps (k+1) sp:=by
 obtain⟨f,fd,l,F⟩:=D;obtain⟨i,g,_,_,_,_,_,_,c,_,lk,_⟩:=F.ex;exact⟨f,fd,l,F.kp,F.binds hb,F.ok S len λa A outer s H vs Q E j h=>b f a A outer s H vs Q E j h,i,g,c,lk⟩
end
section
variable {X:Cx}{k:Nat}{x:Str}{ps:List Str}{sp:Sp}{p pos:Pos}{e:Expr}{es:List Expr}{t:TA}
theorem Vc(C:Can X.prog X.w X.K X.mg X.base x ps k sp)(c:bC k X.A)(l:PA X (e::es) t)(h:Gl X x:=by rfl)(b:(x == ("__debug__":Str))=false:=by decide)
  (i:starEach (e::es) X.env=(false,eval e X.env)::starEach es X.env:=by rfl) (a:(backTo pos (starEach es X.env)).any (·.1)=false:=by rfl):
  PE X (.Call (.Name x p) (e::es) [] pos) (qL sp [] E0 t):=by
 obtain⟨f,fd,d,g,j,F,_⟩:=C;exact Ti F c h d g j .nil oK l b i a
theorem Vd(C:Can X.prog X.w X.K X.mg X.base x ps k sp)(b:bC k X.A)(g:Gl X x:=by rfl)(a:(x == ("__debug__":Str))=false:=by decide):
  PE X (.Call (.Name x p) [] [] pos) (qL sp [] E0 qK):=by
 obtain⟨f,fd,c,d,h,F,_⟩:=C;exact Tj F b g c d h .nil oK a
end
theorem Same.seqT{K:PySem.W.Frag}{H b:Hp}{a:Addr}{xs:List V}(e:Same H b)(h:SqT K H a xs):SqT K b a xs:=by
 rcases h with(h | ⟨o,h⟩) | h
 ·exact .inl (.inl (e _ _ h))
 ·exact .inl (.inr ⟨o,e _ _ h⟩)
 ·exact .inr h
mutual
def Rep(K:PySem.W.Frag)(H:Hp):V->PyData->Prop
 |v,.none=>v=.non
 |v,.bool b=>v=.bl b
 |v,.int i=>v=.int i
 |v,.str x=>v=.str x
 |v,.list ds=>∃a c,v=.ref a/\SqL K H a c/\cT K H c ds
 |v,.tuple ds=>∃a c,v=.ref a/\SqT K H a c/\cT K H c ds
 | _,.dict _=>False
def cT(K:PySem.W.Frag)(H:Hp):List V->List PyData->Prop
 |xs,[]=>xs=[]
 |xs,d::ds=>∃x r,xs=x::r/\Rep K H x d/\cT K H r ds
end
mutual
theorem Rep.mono{K:PySem.W.Frag}{H f:Hp}(e:Same H f):∀(d:PyData) {v:V},Rep K H v d->Rep K f v d
 | .none,v,h=>by rw[Rep] at h ⊢;exact h
 | .bool b,v,h=>by rw[Rep] at h ⊢;exact h
 | .int i,v,h=>by rw[Rep] at h ⊢;exact h
 | .str x,v,h=>by rw[Rep] at h ⊢;exact h
 | .list ds,v,h=>by
  rw[Rep] at h ⊢;obtain⟨a,c,h1,h2,h3⟩:=h;exact⟨a,c,h1,e.seq h2,cT.mono e ds h3⟩
 | .tuple ds,v,h=>by
  rw[Rep] at h ⊢;obtain⟨a,c,h1,h2,h3⟩:=h;exact⟨a,c,h1,e.seqT h2,cT.mono e ds h3⟩
 | .dict _,v,h=>by rw[Rep] at h;exact h.elim
theorem cT.mono{K:PySem.W.Frag}{H a:Hp}(e:Same H a):∀(ds:List PyData) {xs:List V},cT K H xs ds->cT K a xs ds
 | [],xs,h=>by rw[cT] at h ⊢;exact h
 |d::ds,xs,h=>by
  rw[cT] at h ⊢;obtain⟨x,r,h1,h2,h3⟩:=h;exact⟨x,r,h1,Rep.mono e d h2,cT.mono e ds h3⟩
end
theorem cT.nil{K:PySem.W.Frag}{H:Hp}:cT K H [] []:=by rw[cT]
theorem cT.cons{K:PySem.W.Frag}{H:Hp}{x:V}{xs:List V}{d:PyData}{ds:List PyData}(h:Rep K H x d)(hs:cT K H xs ds):cT K H (x::xs) (d::ds):=by
 rw[cT];exact⟨x,xs,rfl,h,hs⟩
section
variable {X:Cx}{pins:List (Addr×Obj)}{σ:St}{H:Hp}{s:Shared}
mutual
theorem Rep.reads(I:Inv X pins σ H s):∀(d:PyData) {v:V}{u:Value},Rep X.K H v d->RelV v u->∃j,Reads s.heap u d j
 | .none,v,u,h,r=>by rw[Rep] at h;subst h;cases(show u=.none from r);exact⟨_,.none⟩
 | .bool b,v,u,h,r=>by rw[Rep] at h;subst h;cases(show u=.bool b from r);exact⟨_,.bool b⟩
 | .int i,v,u,h,r=>by rw[Rep] at h;subst h;obtain⟨t,rfl⟩:=(show ∃t,u=.int i t from r);exact⟨_,.int i t⟩
 | .str x,v,u,h,r=>by rw[Rep] at h;subst h;obtain⟨t,rfl⟩:=(show ∃t,u=.str x t from r);exact⟨_,.str x t⟩
 | .list ds,v,u,h,r=>by
  rw[Rep] at h;obtain⟨a,l,rfl,h2,h3⟩:=h;cases(show u=.ref a from r);obtain⟨k,rv,c,_⟩:=I.list h2;obtain⟨j,q⟩:=cT.reads I ds h3 rv;obtain⟨o,f,g,n,hd⟩:=c.isList;exact⟨_,.list f g hd (by simpa using q)⟩
 | .tuple ds,v,u,h,r=>by
  rw[Rep] at h;obtain⟨a,l,rfl,h2,h3⟩:=h;cases(show u=.ref a from r);obtain⟨k,rv,c,_⟩:=I.tuple h2;obtain⟨j,q⟩:=cT.reads I ds h3 rv;obtain⟨o,f,g,n,hd⟩:=c;exact⟨_,.tuple f g hd (by simpa using q)⟩
 | .dict _,v,u,h,r=>by rw[Rep] at h;exact h.elim
theorem cT.reads(I:Inv X pins σ H s):∀(ds:List PyData) {xs:List V}{us:List Value},cT X.K H xs ds->aW xs us->∃a,ReadsAll s.heap us ds a
 | [],xs,us,h,r=>by rw[cT] at h;subst h;cases r;exact⟨_,.nil⟩
 |d::ds,xs,us,h,r=>by
  rw[cT] at h;obtain⟨x,rest,rfl,h2,h3⟩:=h
  cases r with
  |cons r1 r2 =>
   obtain⟨a,q⟩:=Rep.reads I d h2 r1;obtain⟨bs,b⟩:=cT.reads I ds h3 r2;exact⟨_,.cons q b⟩
end
end
def okD(d:PyData):Bool:=d.canLay0&&decide (d.depth<=60)
def HJ(K:PySem.W.Frag)(a:Bool):R2:=λx y H Q=>∃d e,Rep K H x d/\Rep K H y e/\okD d=true/\okD e=true/\Q (.bl (if a then !PyData.eqv d e else PyData.eqv d e)) H
section
variable {X:Cx}
theorem Ve{k:Nat}(j:bC k X.A):OpR X (compareOp .Eq) (HJ X.K false):=by
 intro pins s σ H x y v u Q I f c h;obtain⟨d,e,h1,h2,b,a,q⟩:=h;obtain⟨l,i⟩:=Rep.reads I d h1 f;obtain⟨bs,g⟩:=Rep.reads I e h2 c;unfold okD at b a;simp only[zr,decide_eq_true_eq] at b a;exact SeqAt.compareEq_reads i g b.1 a.1 (by have:=j.units;omega) ⟨.bl _,H,I,rfl,q⟩
theorem Vf{k:Nat}(j:bC k X.A):OpR X (compareOp .NotEq) (HJ X.K true):=by
 intro pins s σ H x y v u Q I f c h;obtain⟨d,e,h1,h2,b,a,q⟩:=h;obtain⟨l,i⟩:=Rep.reads I d h1 f;obtain⟨bs,g⟩:=Rep.reads I e h2 c;unfold okD at b a;simp only[zr,decide_eq_true_eq] at b a;exact SeqAt.compareNe_reads i g b.1 a.1 (by have:=j.units;omega) ⟨.bl _,H,I,rfl,q⟩
end
def S(l:List Nat):Str:=⟨l.toArray⟩
theorem iH(l:List Nat):(S l).cps.toList=l:=by simp[S]
theorem eX(l:List Nat):(S l).length=l.length:=by simp[S,Str.length]
theorem Vg(x:Str):S x.cps.toList=x:=by cases x;simp[S]
theorem Vh(a b:List Nat):S a++S b=S (a++b):=by
 show Str.mk _=Str.mk _;simp[S]
theorem m5{a b:List Nat}(h:S a=S b):a=b:=by have:=congrArg (λx:Str=>x.cps.toList) h;simpa [iH] using this
section
variable {X:Cx}
theorem Vi:OpR X (compareOp .LtE) (λx y H Q=>∃i j,x=.str i/\y=.str j/\Q (.bl (!decide (j.cps.toList<i.cps.toList))) H):=by
 intro pins s σ H x y v u Q I b a h;obtain⟨i,j,rfl,rfl,q⟩:=h;obtain⟨t,rfl⟩:=b;obtain⟨c,rfl⟩:=a;exact P.le_str ⟨.bl _,H,I,rfl,q⟩
theorem Vj:OpR X (compareOp .In) (λx y H Q=>∃c l,x=.str (S [c])/\y=.str (S l)/\Q (.bl (decide (c∈l))) H):=by
 intro pins s σ H x y v u Q I b a h;obtain⟨c,l,rfl,rfl,q⟩:=h;refine R6 pins s σ H _ _ v u Q I b a ⟨S [c],S l,rfl,rfl,?_⟩;have e:=PySem.StrLaws.found_one (S l) c;rw[iH] at e;show Q (.bl (!(Builtin.Str.occurrences (S l) (S [c]) 0 (S l).length 1).isEmpty)) H;rw[show S [c]=⟨#[c]⟩ from rfl,e];exact q
def Its(l:List Nat):It:=⟨λi _=>i<l.length,λi H x a=>a=H/\∃c,l[i]?=some c/\x=.str (S [c]),λi _=>l.length<=i⟩
theorem Vk{P:Program}{w:World}{K:PySem.W.Frag}{tg:Expr}(l:List Nat)(it:Addr)(t:Tok):Turn P w K tg (Its l) [it] it (λi h=>h.IsStrIter it "str_ascii_iterator" (S l) t i) where
 mem:=by simp
 obj:=λi h st b hb=>by
  have e:b=it:=by simpa using hb
  subst e;obtain⟨o,e,c,d⟩:=st;exact⟨o,e,λv z=>by rw[d] at z;cases z⟩
 keep:=λi h h' st k=>let ⟨o,ho,r⟩:=st;⟨o,k it (by simp) o ho,r⟩
 item:=by
  intro X hP hw hK hc i pins s σ H E I hf st hg;subst hP hw hK;obtain⟨f0,f1,f2,f3,f4,f5⟩:=hf it (by simp);have hg':i<l.length:=hg
  refine wpAny_pyNext_ascii_item st (c:=l[i]) (by simp[S,hg']) λh' st' sb=>?_
  have I1:Inv X pins σ H {s with heap:=h',toks:=s.toks+1}:=I.turned (λb o hb e=>(sb.2 b hb).trans e) f0 f1 f3 f4 f5;obtain⟨o,e,c,d⟩:=id st';exact⟨_,rfl,oJ (s:={s with heap:=h',toks:=s.toks+1}) e c d (by decide) ⟨.str (S [l[i]]),H,I1,⟨_,rfl⟩,⟨rfl,l[i],by simp[hg'],rfl⟩,st',λb hb=>(hf b hb).1⟩⟩
 done:=by
  intro X hP hw hK hc i pins s σ H E I hf st hg;subst hP hw hK;obtain⟨f0,f1,f2,f3,f4,f5⟩:=hf it (by simp);have hg':l.length<=i:=hg
  exact wpAny_pyNext_ascii_end (I.ok.hd hc) st (by simp[S,hg']) λh' eb=>⟨rfl,I.turned (t':=s.toks) (λb o hb e=>eb b o hb e) f0 f1 f3 f4 f5⟩
 self:=λ_ _ _ _ _ st h=>wpAny_pyIter_striter_ascii st h
def ascii(l:List Nat):Bool:=l.all (· < 128)
def Vl(tl:TE):TI:=λσ H R=>tl σ H λx a=>∃l,x=.str (S l)/\ascii l=true/\R (Its l) a
theorem Vm{a e:Expr}{tl:TE}(c:PE X e tl):PI X a e (Vl tl):=by
 intro pins s σ H R I h
 refine thn (c pins s σ H _ I h) λv s1 ⟨x,H1,I1,r1,q1⟩=>?_
 obtain⟨l,e,f,q⟩:=q1;subst e;obtain⟨t,rfl⟩:=r1;refine wpAny_pyIter_ascii (by simpa [S,ascii] using f) ?_;refine⟨s1.heap.objs.size,[s1.heap.objs.size],_,_,H1,rfl,I1.kept (t':=s1.toks) λb o e=>zm _ e,Vk l _ t,⟨_,zw _ rfl,rfl,rfl⟩,λb d=>?_,q⟩
 have e:b=s1.heap.objs.size:=by simpa using d
 subst e;exact I1.fpOk (zc _) (I1.hok.fresh (zc _))
end
structure Blt(mg:Str->Option Value):Prop where
 len_:mg "len" = none
 isinstance_:mg "isinstance" = none
 all_:mg "all" = none
 sum_:mg "sum" = none
 max_:mg "max" = none
 min_:mg "min" = none
 int_:mg "int" = none
 str_:mg "str" = none
 bool_:mg "bool" = none
 list_:mg "list" = none
 tuple_:mg "tuple" = none
 dict_:mg "dict" = none
 range_:mg "range" = none
 enumerate_:mg "enumerate" = none
 zip_:mg "zip" = none
section
variable {X:Cx}
theorem HN{x:Str}{v:V}{a:Pos}(h:∃u,X.mg x=some u/\RelV v u)(c:Gl X x:=by rfl)(hd:(x == ("__debug__":Str))=false:=by decide):PE X (.Name x a) (tC v):=by
 obtain⟨u,b,r⟩:=h;exact QK c b r hd
end
def dU{α:Type}(l:List α)(lo a:Option Int):List α:=(l.drop (HT.sIx l.length 0 lo)).take (HT.sIx l.length l.length a - HT.sIx l.length 0 lo)
theorem HQ(l:List Nat)(lo a:Option Int):Txt.slice (S l) lo a=S (dU l lo a):=by
 obtain⟨h1,h2,h3⟩:=Hm lo a l.length
 have e:Builtin.Str.strSliceIndices lo a 1 (S l).length=(List.range (HT.sIx l.length l.length a - HT.sIx l.length 0 lo)).map (HT.sIx l.length 0 lo + ·):=by
  rw[eX];show sliceRange (sliceBounds lo a none l.length).1 (sliceBounds lo a none l.length).2.1 (sliceBounds lo a none l.length).2.2=_;rw[h1,h2,h3,sliceRange_one]
 unfold Txt.slice;rw[e,pick_run,iH]
 split
 ·rename_i h
  have d:HT.sIx l.length l.length a - HT.sIx l.length 0 lo=l.length:=by simpa [eX] using h
  have c:HT.sIx l.length l.length a<=l.length:=HT.sIx_le _ _ (zc _) a;have b:HT.sIx l.length 0 lo<=l.length:=HT.sIx_le _ _ (Nat.zero_le _) lo
  have h0:HT.sIx l.length 0 lo=0:=by omega
  have h1:HT.sIx l.length l.length a=l.length:=by omega
  unfold dU;rw[h0,h1];simp
 ·rfl
section
variable {X:Cx}
def Vn:V->Option Int->Option Int->Hp->VK->Prop:=λx lo a H Q=>∃l,x=.str (S l)/\l.length<=sizeLine/\Q (.str (S (dU l lo a))) H
theorem part_of{v:Value}{o:Option Int}(p:IsPart v o):∃q:Option (Int×Tok),v=partValue q/\q.map (·.1)=o:=by
 cases p with
 |none=>exact⟨none,rfl,rfl⟩
 |int i t=>exact⟨some (i,t),rfl,rfl⟩
theorem Vo:SlR X Vn:=by
 intro pins s σ H x v vl B lo a sl Q I d n j i h;obtain⟨l,rfl,m,q⟩:=h;obtain⟨t,rfl⟩:=d;obtain⟨g,rfl,y⟩:=part_of j;obtain⟨f,rfl,r⟩:=part_of i;refine⟨"str",_,F.slot_str_getitem.lookup,typeIs_str _ _ _,?_⟩;refine wpAny_getItem_str_slice (l:=g) (u:=f) (st:=none) n rfl ?_;have key:(if((1:Int) == 1&&(Builtin.Str.strSliceIndices lo a 1 (S l).length).length == (S l).length)=true then S l else⟨((Builtin.Str.strSliceIndices lo a 1 (S l).length).filterMap ((S l).cps[·]?)).toArray⟩)=S (dU l lo a):=HQ l lo a;unfold sliceMade slicePicked;rw[y,r];refine post_val_or_str ⟨?_,λb k=>?_⟩
 ·show(Txt.slice (S l) lo a).length<=_;exact zG (Txt.slice_le _ _ _) (by rw[eX];exact m)
 ·have c:=HQ l lo a;unfold Txt.slice at c;show EP X pins σ Q (.str (if((1:Int) == 1&&(Builtin.Str.strSliceIndices lo a 1 (S l).length).length == (S l).length)=true then S l else⟨((Builtin.Str.strSliceIndices lo a 1 (S l).length).filterMap ((S l).cps[·]?)).toArray⟩) b) {s with toks:=k};rw[c];exact⟨.str _,H,I.tok k,⟨b,rfl⟩,q⟩
end
namespace HT2
theorem getItem_tuple_whole{prog:Program}{w:World}{A:Around}{E:Value->Shared->Prop}{s:Shared}{t sl:Addr}{items:Array Value}{vl k:Value}{lo c:Option Int}{Q:Value->Shared->Prop}(a:IsTup s.heap t items)(hs:s.heap.IsSliceOf sl vl k .none)(pl:IsPart vl lo)(q:IsPart k c)
  (l:HT.sIx items.size 0 lo=0/\HT.sIx items.size items.size c=items.size) (h:Q (.ref t) s):wpAny (model prog w) A (getItem (.ref t) (.ref sl)) Q E s:=by
 obtain⟨os,f,i,r⟩:=id hs;have j:s.TypeIs (.ref sl) "slice":=⟨os,f,i⟩;unfold getItem
 try with_reducible refine zP ?_
 first | refine za (zb ?_) | skip
 refine za (wpAny_sequenceKey a.typeIs (by decide) ?_)
 refine za (wpAny_callSpecial?_slot (name:=Str.ofString "__getitem__") a.typeIs PyProof.Rows.slot_tuple_getitem
  (wpAny_call_entry PyProof.Rows.slot_tuple_getitem a.typeIs entry_tuple_getitem ?_ (args_tuple_getitem _ _)))
 show wpAny _ _ (Builtin.Tuple.tupleItemsOf (.ref t) >>= _) _ _ s;refine za (tupleItemsOf_ a ?_);refine za (wpAny_typeOf j ?_);rw[if_pos (by decide)];refine za (HT.sliceApplied_gen hs pl q ?_)
 have b:(((HT.sIx items.size 0 lo:Nat):Int) == 0&&(1:Int) == 1&&(HT.sIx items.size items.size c - HT.sIx items.size 0 lo) == items.size)=true:=by
  rw[l.1,l.2];simp
 show wpAny _ _ (if(((HT.sIx items.size 0 lo:Nat):Int) == 0&&(1:Int) == 1&&(HT.sIx items.size items.size c - HT.sIx items.size 0 lo) == items.size)=true then _ else _) _ _ s;rw[if_pos b]
 have g:∀{n:Around}{m:Value->Shared->Prop}{d:Bool->Shared->Prop},d true s->wpAny (model prog w) n (Builtin.Tuple.tupleIsExact (.ref t)) d m s:=λ{n m d} hq=>by
  unfold Builtin.Tuple.tupleIsExact;exact za (wpAny_typeOf a.typeIs (zb hq))
 refine za (g ?_);rw[if_pos rfl];exact za (zX (zb ⟨_,rfl,zb h⟩))
end HT2
section
variable {X:Cx}
def Vp(K:PySem.W.Frag):V->Option Int->Option Int->Hp->VK->Prop:=λx lo c H Q=>∃a b,x=.ref a/\SqT K H a b /\
 ((HT.sIx b.length 0 lo=0/\HT.sIx b.length b.length c=b.length)->Q (.ref a) H)/\(¬(HT.sIx b.length 0 lo=0/\HT.sIx b.length b.length c=b.length)->∀p,H p=none->Q (.ref p) (upd H p (.tup (j9 b lo c))))
theorem Vq(K:PySem.W.Frag)(u:X.K=K:=by rfl):SlR X (Vp K):=by
 subst u;intro pins s σ H x v vl n lo m sl Q I f l i g h;obtain⟨a,b,rfl,j,t,q⟩:=h
 by_cases c:HT.sIx b.length 0 lo=0/\HT.sIx b.length b.length m=b.length
 ·cases f;obtain⟨d,r,k,y⟩:=I.tuple j
  have hlen:d.toArray.size=b.length:=by rw[zy];exact r.length.symm
  exact⟨"tuple",_,PyProof.Rows.slot_tuple_getitem.lookup,k.typeIs,HT2.getItem_tuple_whole k l i g (by rw[hlen];exact c) ⟨.ref a,H,I,rfl,t c⟩⟩
 ·exact T3 pins s σ H _ v vl n lo m sl Q I f l i g ⟨a,b,rfl,j,c,q c⟩
inductive TyQ (K:PySem.W.Frag) (H:Hp):V->String->Prop where
 | non:TyQ K H .non "NoneType"
 | bl (x:Bool):TyQ K H (.bl x) "bool"
 | int (i:Int):TyQ K H (.int i) "int"
 | str (x:Str):TyQ K H (.str x) "str"
 | lst {a:Addr}{xs:List V} (e:SqL K H a xs):TyQ K H (.ref a) "list"
 | tup {a:Addr}{xs:List V} (e:SqT K H a xs):TyQ K H (.ref a) "tuple"
 | dK {a:Addr}{kvs:List (Key×V)} (e:H a=some (.dK kvs)):TyQ K H (.ref a) "dict"
def Vr(K:PySem.W.Frag):List V->Hp->VK->Prop:=λa H Q=>∃x n t b,a=[x,.ty n]/\TyQ K H x t/\PySem.W.kitOne K (.type t) (.type n)=some b/\Q (.bl b) H
theorem Vs(K:PySem.W.Frag)(B:X.K=K:=by rfl):j7 X (.builtin "isinstance") (Vr K):=by
 subst B;intro pins s σ H l C Q I r h;obtain⟨x,n,t,b,rfl,ty,e,q⟩:=h;obtain⟨u,c,rfl,f,m⟩:=vals2 r;cases(show c=.type n from m)
 have d:∀tk,EP X pins σ Q (.bool b) {s with toks:=tk}:=λtk=>⟨.bl b,H,I.tok tk,rfl,q⟩
 cases ty with
 |non=>exact qJ I f .non e d
 |bl y=>exact qJ I f (.bl y) e d
 |int i=>exact qJ I f (.int i) e d
 |str y=>exact qJ I f (.str y) e d
 | @lst a l ea =>
  cases(show u=Value.ref a from f);obtain⟨k,_,p,_⟩:=I.list ea;obtain⟨o,g,j,_⟩:=p.isList;exact PySem.W.kia_one PySem.W.kitx_list I.kIn ⟨o,g,j⟩ e (λz=>nomatch z) d
 | @tup a l ea =>
  cases(show u=Value.ref a from f);obtain⟨k,_,p,_⟩:=I.tuple ea;obtain⟨o,g,j,_⟩:=p;exact PySem.W.kia_one PySem.W.kitx_tuple I.kIn ⟨o,g,j⟩ e (λz=>nomatch z) d
 | @dK a kvs ea=>exact qJ I f (.dK ea) e d
theorem Vt(K:PySem.W.Frag)(n:String):PySem.W.kitOne K (.type n) (.type n)=some true:=by
 unfold PySem.W.kitOne;rw[if_pos (beq_self_eq_true _)]
end
theorem HR:∀{ds:List PyData},(∀d∈ds,d.canLay0=true)->PyData.canLayAll0 ds=true
 | [],_=>rfl
 |d::ds,h=>by rw[PyData.canLayAll0,h d zg,HR λx a=>h x (zn _ a)];rfl
theorem HS{n:Nat}:∀{ds:List PyData},(∀d∈ds,d.depth<=n)->PyData.depthAll ds<=n
 | [],_=>by rw[PyData.depthAll];exact Nat.zero_le _
 |d::ds,h=>by
  rw[PyData.depthAll];exact Nat.max_le.mpr ⟨h d zg,HS λx a=>h x (zn _ a)⟩
theorem Vu{n:Nat}(a:n<60){ds:List PyData}(h:∀d∈ds,d.canLay0=true/\d.depth<=n):okD (.list ds)=true:=by
 unfold okD;rw[zr];refine⟨?_,zl ?_⟩
 ·show PyData.canLayAll0 ds=true
  exact HR λd hd=>(h d hd).1
 ·show PyData.depthAll ds+1<=60
  have:=HS λd hd=>(h d hd).2
  omega
section
variable {X:Cx}
theorem HW:∀{ls:List (List Nat)}{us:List Value},aW (ls.map λl=>V.str (S l)) us->StrsAre us (ls.map S)
 | [],us,r=>by rw[zL] at r;cases r;exact .nil
 |l::ls,us,r=>by
  rw[zh] at r
  cases r with
  |cons r1 r2 =>
   obtain⟨t,e⟩:=r1;subst e;exact .cons _ t (HW r2)
theorem HX:∀(ls:List (List Nat)) (a:Array Nat),(ls.map S).foldl (λacc p=>acc++(S []).cps++p.cps) a=a++ls.flatten.toArray
 | [],a=>by simp
 |l::ls,a=>by
  rw[zh,List.foldl_cons,HX ls];simp[S]
theorem Vv(ls:List (List Nat)):Txt.join (S []) (ls.map S)=S ls.flatten:=by
 show Builtin.Str.glued (S []) (ls.map S)=_;unfold Builtin.Str.glued
 cases ls with
 |nil=>rfl
 |cons l ls =>
  show Str.mk ((ls.map S).foldl (λa p=>a++(S []).cps++p.cps) (S l).cps)=_;rw[HX];simp[S]
def rJoin(K:PySem.W.Frag):V->List V->Hp->VK->Prop:=λx a H Q=>∃(p:Addr) (ls:List (List Nat)),x=.str (S [])/\a=[.ref p]/\SqL K H p (ls.map λl=>V.str (S l))/\(ls.map List.length).sum<=1000000/\Q (.str (S ls.flatten)) H
theorem Vw(K:PySem.W.Frag)(i:X.K=K:=by rfl):MtR X "str.join" (rJoin K):=by
 subst i;intro pins s σ H x m v n Q I b d h;obtain⟨p,ls,rfl,rfl,g,r,q⟩:=h;obtain⟨t,rfl⟩:=b;obtain⟨u,rfl,c⟩:=vals1 d;cases c;obtain⟨j,rv,f,_⟩:=I.list g
 refine join_list f.isList (ys:=ls.map S) (by simpa using HW rv) ?_ λa k=>⟨.str (S ls.flatten),H,I.tok k,⟨a,?_⟩,q⟩
 ·have e:((ls.map S).map (·.length)).sum=(ls.map List.length).sum:=by
   rw[zO];exact congrArg List.sum (jm λl _=>eX l)
  rw[e,eX];simp only[zJ,Nat.mul_zero];omega
 ·rw[Vv]
def Vx:V->List V->Hp->VK->Prop:=λx a H Q=>∃l m,x=.str (S l)/\a=[.str (S m)]/\Q (.bl (decide (l.take m.length=m))) H
theorem Vy(l m:List Nat):Txt.startswith (S l) (S m)=decide (l.take m.length=m):=by
 unfold Txt.startswith;rw[StrLaws.subAt_eq,iH,iH,eX,eX,List.drop_zero,Bool.eq_iff_iff,zr,decide_eq_true_eq,decide_eq_true_eq,beq_iff_eq];constructor
 ·exact λh=>h.2
 ·intro h;refine⟨?_,h⟩
  have:=congrArg List.length h
  rw[List.length_take] at this;omega
def Vz:R2:=λx y H Q=>∃(l:List Nat) (n:Int),x=.str (S l)/\y=.int n/\-1000000<n/\n<1000000/\l.length * n.toNat<=16777216/\Q (.str (S (List.replicate n.toNat l).flatten)) H
theorem HY(l:List Nat):∀(n:Nat) (a:Array Nat),(List.replicate n (S l).cps).foldl (· ++ ·) a=a++(List.replicate n l).flatten.toArray
 | 0,a=>by simp
 |n+1,a=>by
  rw[List.replicate_succ,List.foldl_cons,HY l n,List.replicate_succ,List.flatten_cons];simp[S]
theorem VB:OpR X (binaryOp .Mult) Vz:=by
 intro pins s σ H x y v u Q I c b h;obtain⟨l,n,rfl,rfl,h1,h2,h3,q⟩:=h;obtain⟨t,rfl⟩:=c;obtain⟨k,rfl⟩:=b;have m:sizeLine=16777216:=sizeLine_eq
 by_cases g:n<1
 ·have j:n.toNat=0:=by omega
  rw[j] at q;exact P.mul_str_none g (by omega) ⟨.str (S []),H,I.tok _,⟨s.toks,rfl⟩,q⟩
 refine P.mul_str ?_ (λ_ _=>?_) (λ_ _=>?_) ?_
 ·rw[zd (by omega),zd (by omega)];rfl
 ·rw[eX];intro d
  have h4:(l.length:Int) * n<=16777216:=by
   have:((l.length * n.toNat:Nat):Int)<=16777216:=by omega
   rw[Int.natCast_mul,Int.toNat_of_nonneg (by omega)] at this;exact this
  have i:(2 ^ 63 - 1) / n<(l.length:Int):=d;have r:=(Int.ediv_lt_iff_lt_mul (show 0<n by omega)).mp i;omega
 ·rw[eX];unfold Builtin.Str.tooLong;exact zd (by omega)
 ·rw[if_neg (by omega)]
  by_cases a:(n == 1 || (S l).length == 0)=true
  ·rw[if_pos a]
   have e:(List.replicate n.toNat l).flatten=l:=by
    rw[Bool.or_eq_true,beq_iff_eq,beq_iff_eq,eX] at a
    rcases a with z | z
    ·rw[z];show(List.replicate 1 l).flatten=l;simp
    ·have z':=List.eq_nil_of_length_eq_zero z;subst z';rw[List.flatten_eq_nil_iff];intro x f;exact(List.mem_replicate.mp f).2
   rw[e] at q;exact⟨.str (S l),H,I,⟨t,rfl⟩,q⟩
  ·rw[if_neg a,HY];refine⟨?_,.str (S (List.replicate n.toNat l).flatten),H,I.tok _,⟨s.toks,?_⟩,q⟩
   ·show(#[]++(List.replicate n.toNat l).flatten.toArray).size<=sizeLine;simp only[Array.size_append,zy,List.length_flatten,List.map_replicate,List.sum_replicate_nat];simp;rw[Nat.mul_comm];omega
   ·congr 1;simp[S]
theorem VD:MtR X "str.startswith" Vx:=by
 intro pins s σ H x d v f Q I a c h;obtain⟨l,m,rfl,rfl,q⟩:=h;obtain⟨t,rfl⟩:=a;obtain⟨u,rfl,b⟩:=vals1 c;obtain⟨g,rfl⟩:=b;exact SC.startswith ⟨.bl _,H,I,rfl,by rw[Vy];exact q⟩
end
inductive D where
 | non | bl (b:Bool) | int (i:Int) | str (l:List Nat) | lst (ds:List D) | tup (ds:List D) | dic (ks vs:List D) | ob (n:Nat)
inductive Ob where
 | ins (c:Str) (fs:List (Str×D))
 | ml (ds:List D)
 | dt (kvs:List (List Key×D))
 | df (kvs:List (List Key×D))
 | dk (kvs:List (Key×D))
 | kf (kvs:List (Key×D))
 | xc (c:Str) (fs:List (Str×D))
 | gone
 | dn (kvs:List (NK×D))
 | nf (kvs:List (NK×D))
abbrev aq:=List Ob
abbrev aA:=List (Option D)
structure Xc where
 cls:Str
 fs:List (Str×D)
inductive Res (α:Type) where
 | ok (a:α) (O:aq) | ex (x:Xc) (O:aq) | no
inductive Fl where
 | nx (ρ:aA) (O:aq) | rt (d:D) (O:aq) | bk (ρ:aA) (O:aq) | ct (ρ:aA) (O:aq) | ex (x:Xc) (O:aq) | no
abbrev M(α:Type):=aA->aq->Res α
abbrev MS:=aA->aq->Fl
def Res.bind{α β:Type}(r:Res α)(f:α->aq->Res β):Res β:=match r with
 | .ok a O=>f a O
 | .ex x O=>.ex x O
 | .no=>.no
theorem Res.bind_ok{α β:Type}{r:Res α}{f:α->aq->Res β}{b:β}{c:aq}(h:r.bind f=.ok b c):∃a O,r=.ok a O/\f a O=.ok b c:=by
 cases r with
 |ok a O=>exact⟨a,O,rfl,h⟩
 |ex x O=>cases h
 |no=>cases h
def xO:Expr->Bool
 | .Starred _ _=>false
 | _=>true
theorem cV{e:Expr}{es:List Expr}{env:Env}(h:xO e=true):starEach (e::es) env=(false,eval e env)::starEach es env:=by
 cases e<;>first | rfl | cases h
theorem dW{a:Pos}{env:Env}:∀{es:List Expr},es.all xO=true->(backTo a (starEach es env)).any (·.1)=false
 | [],_=>by simp[starEach,backTo]
 |e::es,h=>by
  rw[List.all_cons,zr] at h;rw[cV h.1];show(false || (backTo a (starEach es env)).any (·.1))=false;rw[dW h.2];rfl
theorem oN{e:Expr}{env:Env}(h:xO e=true):starEach [e] env=[(false,eval e env)]:=by rw[cV h];simp[starEach]
abbrev Frag:=PySem.W.Frag
def km:Key->D
 | .inl i=>.int i
 | .inr x=>.str x.cps.toList
def RdK(K:Frag)(H:Hp)(a:Addr)(xs:List V):Prop:=Rd H a (.lst xs)\/∃(b:List Value) (n:Nat),K.lookup a=some {cls:=.type "list",data:=.seq b.toArray n}/\b.length<=sizeLine/\aW xs b
theorem RdK.sq{K:Frag}{H:Hp}{a:Addr}{xs:List V}(h:RdK K H a xs):SqL K H a xs:=by
 rcases h with h | ⟨b,n,h1,h2,h3⟩
 ·exact .inl h
 ·exact .inr ⟨_,b.toArray,n,h1,rfl,rfl,rfl,by simpa using h2,by simpa using h3⟩
theorem RdK.ok{X:Cx}{pins:List (Addr×Obj)}{σ:St}{H:Hp}{s:Shared}{a:Addr}{xs:List V}(h:RdK X.K H a xs)(I:Inv X pins σ H s):xs.length<=sizeLine/\∃(its:List Value) (n:Nat),aW xs its/\s.heap.get? a=some {cls:=.type "list",data:=.seq its.toArray n}:=by
 rcases h with h | ⟨its,n,h1,h2,h3⟩
 ·exact h.ok I.hok
 ·exact⟨by rw[h3.length];exact h2,its,n,h3,I.kIn a _ h1⟩
def TqT(K:Frag)(F:Hp)(a:Addr)(xs:List V):Prop :=
 F a=some (.tup xs)\/∃(o:Obj) (b:Array Value) (n:Nat),K.lookup a=some o/\o.cls=.type "tuple"/\o.data=.seq b n/\b.size<=sizeLine/\aW xs b.toList
theorem TqT.sq{K:Frag}{F:Hp}{a:Addr}{xs:List V}(h:TqT K F a xs):SqT K F a xs:=h.imp .inl id
mutual
def Rp(K:Frag)(F:Hp)(d:List Addr):V->D->Prop
 |v,.non=>v=.non
 |v,.bl b=>v=.bl b
 |v,.int i=>v=.int i
 |v,.str l=>v=.str (S l)
 |v,.lst ds=>∃a c,v=.ref a/\RdK K F a c/\Rps K F d c ds
 |v,.tup ds=>∃a c,v=.ref a/\TqT K F a c/\Rps K F d c ds
 |v,.dic ks vs=>∃(a:Addr) (kvs:List (Key×V)),v=.ref a/\F a=some (.dK kvs)/\ks=kvs.map (λp=>km p.1)/\Rps K F d (kvs.map (·.2)) vs
 |v,.ob n=>∃a,v=.ref a/\d[n]?=some a
def Rps(K:Frag)(F:Hp)(a:List Addr):List V->List D->Prop
 |xs,[]=>xs=[]
 |xs,d::ds=>∃x r,xs=x::r/\Rp K F a x d/\Rps K F a r ds
end
section
variable {K:Frag}{F F':Hp}{as as':List Addr}
theorem Rd.mono{H b:Hp}{a:Addr}{u:HO}(e:Same H b)(h:Rd H a u):Rd b a u:=by
 rcases h with h | ⟨o,h⟩
 ·exact .inl (e _ _ h)
 ·exact .inr ⟨o,e _ _ h⟩
theorem RdK.mono{H b:Hp}{a:Addr}{xs:List V}(e:Same H b)(h:RdK K H a xs):RdK K b a xs:=h.imp (λz=>z.mono e) id
mutual
theorem Rp.mono(e:Same F F')(c:∀(n:Nat) (a:Addr),as[n]?=some a->as'[n]?=some a):∀(d:D) {v:V},Rp K F as v d->Rp K F' as' v d
 | .non,v,h=>by rw[Rp] at h ⊢;exact h
 | .bl b,v,h=>by rw[Rp] at h ⊢;exact h
 | .int i,v,h=>by rw[Rp] at h ⊢;exact h
 | .str x,v,h=>by rw[Rp] at h ⊢;exact h
 | .lst ds,v,h=>by
  rw[Rp] at h ⊢;obtain⟨a,f,h1,h2,h3⟩:=h;exact⟨a,f,h1,h2.mono e,Rps.mono e c ds h3⟩
 | .tup ds,v,h=>by
  rw[Rp] at h ⊢;obtain⟨a,f,h1,h2,h3⟩:=h;exact⟨a,f,h1,h2.imp (e _ _) id,Rps.mono e c ds h3⟩
 | .dic ks vs,v,h=>by
  rw[Rp] at h ⊢;obtain⟨a,kvs,h1,h2,h3,h4⟩:=h;exact⟨a,kvs,h1,e _ _ h2,h3,Rps.mono e c vs h4⟩
 | .ob n,v,h=>by
  rw[Rp] at h ⊢;obtain⟨a,h1,h2⟩:=h;exact⟨a,h1,c _ _ h2⟩
theorem Rps.mono(e:Same F F')(b:∀(n:Nat) (a:Addr),as[n]?=some a->as'[n]?=some a):∀(ds:List D) {xs:List V},Rps K F as xs ds->Rps K F' as' xs ds
 | [],xs,h=>by rw[Rps] at h ⊢;exact h
 |d::ds,xs,h=>by
  rw[Rps] at h ⊢;obtain⟨x,r,h1,h2,h3⟩:=h;exact⟨x,r,h1,Rp.mono e b d h2,Rps.mono e b ds h3⟩
end
theorem Rp.non:Rp K F as .non .non:=by rw[Rp]
theorem Rp.bl{b:Bool}:Rp K F as (.bl b) (.bl b):=by rw[Rp]
theorem Rp.int{i:Int}:Rp K F as (.int i) (.int i):=by rw[Rp]
theorem Rp.str{l:List Nat}:Rp K F as (.str (S l)) (.str l):=by rw[Rp]
theorem Rp.unN{v:V}(h:Rp K F as v .non):v=.non:=by rw[Rp] at h;exact h
theorem Rp.unB{v:V}{b:Bool}(h:Rp K F as v (.bl b)):v=.bl b:=by rw[Rp] at h;exact h
theorem Rp.unI{v:V}{i:Int}(h:Rp K F as v (.int i)):v=.int i:=by rw[Rp] at h;exact h
theorem Rp.unS{v:V}{l:List Nat}(h:Rp K F as v (.str l)):v=.str (S l):=by rw[Rp] at h;exact h
theorem Rp.unL{v:V}{ds:List D}(h:Rp K F as v (.lst ds)):∃a xs,v=.ref a/\RdK K F a xs/\Rps K F as xs ds:=by rw[Rp] at h;exact h
theorem Rp.unT'{v:V}{ds:List D}(h:Rp K F as v (.tup ds)):∃a xs,v=.ref a/\TqT K F a xs/\Rps K F as xs ds:=by rw[Rp] at h;exact h
theorem Rp.unT{v:V}{ds:List D}(h:Rp K F as v (.tup ds)):∃a xs,v=.ref a/\SqT K F a xs/\Rps K F as xs ds:=let ⟨a,xs,e,h1,h2⟩:=h.unT';⟨a,xs,e,h1.sq,h2⟩
theorem Rp.unO{v:V}{n:Nat}(h:Rp K F as v (.ob n)):∃a,v=.ref a/\as[n]?=some a:=by rw[Rp] at h;exact h
theorem Rp.unD{v:V}{ks vs:List D}(h:Rp K F as v (.dic ks vs)):∃(a:Addr) (kvs:List (Key×V)),v=.ref a/\F a=some (.dK kvs)/\ks=kvs.map (λp=>km p.1)/\Rps K F as (kvs.map (·.2)) vs:=by rw[Rp] at h;exact h
theorem Rp.mkL{a:Addr}{xs:List V}{ds:List D}(h:RdK K F a xs)(hs:Rps K F as xs ds):Rp K F as (.ref a) (.lst ds):=by rw[Rp];exact⟨a,xs,rfl,h,hs⟩
theorem Rp.mkT{a:Addr}{xs:List V}{ds:List D}(h:TqT K F a xs)(hs:Rps K F as xs ds):Rp K F as (.ref a) (.tup ds):=by rw[Rp];exact⟨a,xs,rfl,h,hs⟩
theorem Rp.mkO{a:Addr}{n:Nat}(h:as[n]?=some a):Rp K F as (.ref a) (.ob n):=by rw[Rp];exact⟨a,rfl,h⟩
theorem Rps.nil:Rps K F as [] []:=by rw[Rps]
theorem Rps.cons{x:V}{xs:List V}{d:D}{ds:List D}(h:Rp K F as x d)(hs:Rps K F as xs ds):Rps K F as (x::xs) (d::ds):=by
 rw[Rps];exact⟨x,xs,rfl,h,hs⟩
theorem Rps.un{xs:List V}{d:D}{ds:List D}(h:Rps K F as xs (d::ds)):∃x r,xs=x::r/\Rp K F as x d/\Rps K F as r ds:=by rw[Rps] at h;exact h
theorem Rps.un0{xs:List V}(h:Rps K F as xs []):xs=[]:=by rw[Rps] at h;exact h
theorem Rps.length:∀{ds:List D}{xs:List V},Rps K F as xs ds->xs.length=ds.length
 | [],xs,h=>by rw[h.un0];rfl
 |d::ds,xs,h=>by
  obtain⟨x,r,rfl,_,h3⟩:=h.un;simp[Rps.length h3]
theorem Rps.get:∀{ds:List D}{xs:List V}{i:Nat}{x:V},Rps K F as xs ds->xs[i]?=some x->∃d,ds[i]?=some d/\Rp K F as x d
 | [],xs,i,x,h,e=>by rw[h.un0] at e;simp at e
 |d::ds,xs,i,x,h,e=>by
  obtain⟨y,r,rfl,h2,h3⟩:=h.un
  cases i with
  |zero=>simp at e;subst e;exact⟨d,rfl,h2⟩
  |succ i =>
   obtain⟨b,a,q⟩:=Rps.get (i:=i) (x:=x) h3 (by simpa using e);exact⟨b,by simpa using a,q⟩
theorem Rps.get':∀{ds:List D}{xs:List V}{i:Nat}{d:D},Rps K F as xs ds->ds[i]?=some d->∃x,xs[i]?=some x/\Rp K F as x d:=by
 intro ds xs i d h e;have c:=h.length
 have a:i<xs.length:=by rw[c];exact(zq.mp e).1
 obtain⟨f,b,q⟩:=h.get (zx a);rw[e] at b;cases b;exact⟨_,zx a,q⟩
theorem Rps.append{ys:List V}{es:List D}(a:Rps K F as ys es):∀{ds:List D}{xs:List V},Rps K F as xs ds->Rps K F as (xs++ys) (ds++es)
 | [],xs,h=>by rw[h.un0];exact a
 |e::ds,xs,h=>by
  obtain⟨y,r,rfl,h2,h3⟩:=h.un;exact Rps.cons h2 (Rps.append a h3)
theorem Rps.snoc{x:V}{d:D}{ds:List D}{xs:List V}(h:Rps K F as xs ds)(a:Rp K F as x d):Rps K F as (xs++[x]) (ds++[d]):=Rps.append (Rps.cons a Rps.nil) h
theorem Rps.take:∀{ds:List D}{xs:List V} (n:Nat),Rps K F as xs ds->Rps K F as (xs.take n) (ds.take n)
 | _,_,0,_=>by simpa using Rps.nil
 | [],xs,n+1,h=>by rw[h.un0];simpa using Rps.nil
 |d::ds,xs,n+1,h=>by
  obtain⟨y,r,rfl,h2,h3⟩:=h.un;exact Rps.cons h2 (Rps.take n h3)
theorem Rps.drop:∀{ds:List D}{xs:List V} (n:Nat),Rps K F as xs ds->Rps K F as (xs.drop n) (ds.drop n)
 | _,_,0,h=>by simpa using h
 | [],xs,n+1,h=>by rw[h.un0];simpa using Rps.nil
 |d::ds,xs,n+1,h=>by
  obtain⟨y,r,rfl,h2,h3⟩:=h.un;exact Rps.drop n h3
theorem Rps.rep{ds:List D}{xs:List V}(h:Rps K F as xs ds):∀n:Nat,Rps K F as (List.replicate n xs).flatten (List.replicate n ds).flatten
 | 0=>by simpa using Rps.nil
 |n+1=>by
  rw[List.replicate_succ,List.replicate_succ,List.flatten_cons,List.flatten_cons];exact Rps.append (Rps.rep h n) h
end
def isD:HO->Bool
 | .ins _ _ _=>false
 | .own _=>false
 | .xd _=>false
 | _=>true
def isL:HO->Bool
 | .lst _=>true
 | .dK _=>true
 | _=>false
theorem H9{o:HO}(h:isL o=true):isD o=true:=by
 cases o<;>first | rfl | cases h
structure Gr(H F:Hp)(as:List Addr)(H' F':Hp)(as':List Addr):Prop where
 fz:∀a o,H a=some o->a∉as->isL o=true->F' a=F a
 ff:Same F F'
 nw:∃new,as'=as++new/\∀a∈new,H a=none
 fr:∀a o,H a=some o->a∉as->isD o=true->H' a=some o
 dm:∀a,H' a=none->H a=none
 kz:∀a o u,H a=some (.frz o u)->H' a=some (.frz o u)
structure Pt where
 p:Addr->Prop
 ss:List (Nat×V×D)
instance:CoeFun Pt (λ_=>Addr->Prop):=⟨Pt.p⟩
def Pt.all(H:Hp):Pt:=⟨λa=>H a≠none,[]⟩
structure GrS(P:Pt)(H F:Hp)(as:List Addr)(H' F':Hp)(as':List Addr):Prop where
 fz:∀a o,P a->H a=some o->a∉as->isL o=true->F' a=F a
 ff:Same F F'
 nw:∃new,as'=as++new/\∀a∈new,H a=none
 fr:∀a o,P a->H a=some o->a∉as->isD o=true->H' a=some o
 dm:∀a,H' a=none->H a=none
 kz:∀a o u,H a=some (.frz o u)->H' a=some (.frz o u)
section
variable {H F H' F' H2 F2:Hp}{as as' as2:List Addr}{P:Pt}
theorem Gr.refl:Gr H F as H F as:=⟨λ_ _ _ _ _=>rfl,Same.refl F,⟨[],by simp,λ_ h=>nomatch h⟩,λ_ _ h _ _=>h,λ_ h=>h,λ_ _ _ h=>h⟩
theorem Gr.trans(a:Gr H F as H' F' as')(b:Gr H' F' as' H2 F2 as2):Gr H F as H2 F2 as2:=by
 obtain⟨j,g,h1⟩:=a.nw;obtain⟨i,k,h2⟩:=b.nw;refine⟨λc o f d hd=>?_,a.ff.trans b.ff,⟨j++i,by rw[k,g,zB],λc f=>?_⟩,λc o e d hd=>?_,λc h=>a.dm c (b.dm c h),λc o u h=>b.kz c o u (a.kz c o u h)⟩
 ·have q:=a.fr c o f d (H9 hd);refine(b.fz c o q ?_ hd).trans (a.fz c o f d hd);rw[g];intro z
  rcases zE.mp z with z | z
  ·exact d z
  ·rw[h1 c z] at f;cases f
 ·rcases zE.mp f with z | z
  ·exact h1 c z
  ·exact a.dm c (h2 c z)
 ·have q:=a.fr c o e d hd;refine b.fr c o q ?_ hd;rw[g];intro z
  rcases zE.mp z with z | z
  ·exact d z
  ·rw[h1 c z] at e;cases e
theorem Gr.toS(a:Gr H F as H' F' as'):GrS P H F as H' F' as':=⟨λc o _=>a.fz c o,a.ff,a.nw,λc o _ e b hd=>a.fr c o e b hd,a.dm,a.kz⟩
theorem GrS.refl:GrS P H F as H F as:=Gr.refl.toS
theorem GrS.trans(a:GrS P H F as H' F' as')(b:GrS P H' F' as' H2 F2 as2):GrS P H F as H2 F2 as2:=by
 obtain⟨j,g,h1⟩:=a.nw;obtain⟨i,k,h2⟩:=b.nw;refine⟨λc o p f d hd=>?_,a.ff.trans b.ff,⟨j++i,by rw[k,g,zB],λc f=>?_⟩,λc o p e d hd=>?_,λc h=>a.dm c (b.dm c h),λc o u h=>b.kz c o u (a.kz c o u h)⟩
 ·have q:=a.fr c o p f d (H9 hd);refine(b.fz c o p q ?_ hd).trans (a.fz c o p f d hd);rw[g];intro z
  rcases zE.mp z with z | z
  ·exact d z
  ·rw[h1 c z] at f;cases f
 ·rcases zE.mp f with z | z
  ·exact h1 c z
  ·exact a.dm c (h2 c z)
 ·have q:=a.fr c o p e d hd;refine b.fr c o p q ?_ hd;rw[g];intro z
  rcases zE.mp z with z | z
  ·exact d z
  ·rw[h1 c z] at e;cases e
theorem GrS.gr(a:GrS (Pt.all H) H F as H' F' as'):Gr H F as H' F' as':=⟨λc o e=>a.fz c o (show H c≠none by rw[e];exact λz=>nomatch z) e,a.ff,a.nw,λc o e=>a.fr c o (show H c≠none by rw[e];exact λz=>nomatch z) e,a.dm,a.kz⟩
theorem Gr.at_(a:Gr H F as H' F' as'):∀(n:Nat) (c:Addr),as[n]?=some c->as'[n]?=some c:=λn c h=>by
 obtain⟨b,e,_⟩:=a.nw;rw[e,zC (zq.mp h).1];exact h
theorem GrS.at_(a:GrS P H F as H' F' as'):∀(n:Nat) (c:Addr),as[n]?=some c->as'[n]?=some c:=λn c h=>by
 obtain⟨b,e,_⟩:=a.nw;rw[e,zC (zq.mp h).1];exact h
theorem Gr.out(a:Gr H F as H' F' as'){c:Addr}(h:c∉as)(e:H c≠none):c∉as':=by
 obtain⟨d,b,h1⟩:=a.nw;rw[b];intro z
 rcases zE.mp z with z | z
 ·exact h z
 ·exact e (h1 c z)
theorem Rp.gr{K:Frag}{v:V}{d:D}(h:Rp K F as v d)(a:Gr H F as H' F' as'):Rp K F' as' v d:=Rp.mono a.ff a.at_ d h
theorem Rps.gr{K:Frag}{v:List V}{d:List D}(h:Rps K F as v d)(a:Gr H F as H' F' as'):Rps K F' as' v d:=Rps.mono a.ff a.at_ d h
theorem Rp.grS{K:Frag}{v:V}{d:D}(h:Rp K F as v d)(a:GrS P H F as H' F' as'):Rp K F' as' v d:=Rp.mono a.ff a.at_ d h
end
structure FsR(K:Frag)(F:Hp)(as:List Addr)(gs:List (Str×V))(fs:List (Str×D)):Prop where
 nm:gs.map (·.1)=fs.map (·.1)
 vl:Rps K F as (gs.map (·.2)) (fs.map (·.2))
def XF(K:Frag)(F:Hp)(d:List Addr)(a:Option Addr)(fs:List (Str×D)):Prop:=fs=[]\/∃b c gs,a=some b/\F b=some (.frz c (.xd gs))/\FsR K F d gs fs
theorem XF.mono{K:Frag}{F f:Hp}{d c:List Addr}{b:Option Addr}{fs:List (Str×D)}(h:XF K F d b fs)(e:Same F f)(i:∀(n:Nat) (a:Addr),d[n]?=some a->c[n]?=some a):XF K f c b fs:=by
 rcases h with h | ⟨j,g,gs,h1,h2,h3,h4⟩
 ·exact .inl h
 ·exact .inr ⟨j,g,gs,h1,e _ _ h2,h3,Rps.mono e i _ h4⟩
def ObR(K:Frag)(mg:Str->Option Value)(H F:Hp)(d:List Addr)(a:Addr):Ob->Prop
 | .ins c fs=>∃C h gs,mg c=some (.ref C)/\H a=some (.ins C h gs)/\FsR K F d gs fs
 | .ml ds=>∃b,H a=some (.lst b)/\Rps K F d b ds
 | .dt kvs=>∃b:List (List Key×V),H a=some (.dT b)/\b.map (·.1)=kvs.map (·.1)/\Rps K F d (b.map (·.2)) (kvs.map (·.2))
 | .df kvs=>∃(o:Obj) (b:List (List Key×V)),H a=some (.frz o (.dT b))/\b.map (·.1)=kvs.map (·.1)/\Rps K F d (b.map (·.2)) (kvs.map (·.2))
 | .dk kvs=>∃b:List (Key×V),H a=some (.dK b)/\b.map (·.1)=kvs.map (·.1)/\Rps K F d (b.map (·.2)) (kvs.map (·.2))
 | .kf kvs=>∃(o:Obj) (b:List (Key×V)),H a=some (.frz o (.dK b))/\b.map (·.1)=kvs.map (·.1)/\Rps K F d (b.map (·.2)) (kvs.map (·.2))
 | .xc c fs=>∃(C:Addr) (f:Obj) (u:HO),mg c=some (.ref C)/\H a=some (.frz f u)/\f.cls=.ref C/\(∃g,f.data=.fields g)/\XF K F d f.dict fs
 | .gone=>∃φ,H a=some (.ext φ)
 | .dn kvs=>∃b:List (NK×V),H a=some (.dN K b)/\b.map (·.1)=kvs.map (·.1)/\Rps K F d (b.map (·.2)) (kvs.map (·.2))
 | .nf kvs=>∃(o:Obj) (b:List (NK×V)),H a=some (.frz o (.dN K b))/\b.map (·.1)=kvs.map (·.1)/\Rps K F d (b.map (·.2)) (kvs.map (·.2))
structure RlO(K:Frag)(mg:Str->Option Value)(O:aq)(H F:Hp)(as:List Addr):Prop where
 fh:Same F H
 fd:∀a o,F a=some o->isD o=true
 nd:as.Nodup
 len:as.length=O.length
 fa:∀a∈as,F a=none
 ob:∀(n:Nat) (a:Addr) (o:Ob),as[n]?=some a->O[n]?=some o->ObR K mg H F as a o
inductive Md where
 | v | s | o
 deriving DecidableEq
def jD:D->Bool
 | .lst _=>false
 | _=>true
def iI(P:Pt)(K:Frag)(H F:Hp)(b:List Addr):Md->V->D->Prop
 | .v,v,d=>Rp K F b v d
 | .s,v,d=>Rp K F b v d\/∃a c f,v=.ref a/\d=.lst f/\H a=some (.lst c)/\a∉b/\P a/\Rps K F b c f
 | .o,v,d=>(jD d=true/\Rp K F b v d)\/∃a c f,v=.ref a/\d=.lst f/\H a=some (.lst c)/\F a=none/\a∉b/\¬P a/\Rps K F b c f
structure SlO(K:Frag)(md:List Md)(P:Pt)(ρ:aA)(σ:St)(H F:Hp)(as:List Addr):Prop where
 len:σ.length=md.length
 len':ρ.length=md.length
 pd:∀a,P a->H a≠none
 sl:∀(i:Nat) (m:Md) (d:D),md[i]?=some m->ρ[i]?=some (some d)->∃v,σ[i]?=some (some v)/\iI P K H F as m v d
 inj:∀(i j:Nat) (a:Addr) (ds es:List D),md[i]?=some .o->md[j]?=some .o->ρ[i]?=some (some (.lst ds))->ρ[j]?=some (some (.lst es))->σ[i]?=some (some (.ref a))->σ[j]?=some (some (.ref a))->i=j
 pin:∀x∈P.ss,md[x.1]?=some .s/\ρ[x.1]?=some (some x.2.2)/\σ[x.1]?=some (some x.2.1)
section
variable {K:Frag}{mg:Str->Option Value}{md:List Md}{P:Pt}{ρ:aA}{σ:St}{H F H' F':Hp}{as as':List Addr}{O O':aq}
theorem iI.step{m:Md}{v:V}{d:D}(h:iI P K H F as m v d)(g:Gr H F as H' F' as'):iI P K H' F' as' m v d:=by
 cases m with
 |v=>exact Rp.gr (show Rp K F as v d from h) g
 |s =>
  rcases h with h | ⟨a,f,n,l,k,c,b,j,i⟩
  ·exact .inl (h.gr g)
  ·exact .inr ⟨a,f,n,l,k,g.fr _ _ c b rfl,g.out b (by rw[c];exact λz=>nomatch z),j,i.gr g⟩
 |o =>
  rcases h with⟨h1,h⟩ | ⟨a,f,n,l,k,c,r,b,j,i⟩
  ·exact .inl ⟨h1,h.gr g⟩
  ·have q:H a≠none:=by rw[c];exact λz=>nomatch z
   exact .inr ⟨a,f,n,l,k,g.fr _ _ c b rfl,by rw[g.fz a _ c b rfl];exact r,g.out b q,j,i.gr g⟩
theorem SlO.step(h:SlO K md P ρ σ H F as)(g:Gr H F as H' F' as'):SlO K md P ρ σ H' F' as' :=
 ⟨h.len,h.len',λa p z=>h.pd a p (g.dm a z),λi m d c b=>let ⟨v,q,r⟩:=h.sl i m d c b;⟨v,q,r.step g⟩,h.inj,h.pin⟩
end
def Sv(K:Frag)(H F:Hp)(b:List Addr)(v:V)(d:D):Prop :=
 Rp K F b v d\/∃a c f,v=.ref a/\d=.lst f/\H a=some (.lst c)/\a∉b/\Rps K F b c f
def Lk(K:Frag)(H F:Hp)(f:List Addr)(v:V)(d:D):Prop :=
 Rp K F f v d\/∃a b c,v=.ref a/\d=.lst c/\H a=some (.lst b)/\Rps K F f b c
def Ow(K:Frag)(N:Addr->Prop)(H F:Hp)(b:List Addr)(v:V)(d:D):Prop :=
 (jD d=true/\Rp K F b v d)\/∃a c f,v=.ref a/\d=.lst f/\H a=some (.lst c)/\F a=none/\a∉b/\N a/\Rps K F b c f
def bK(O:aq)(d:D):D:=match d with
 | .ob n=>match O[n]? with
  |some (.ml ds)=>.lst ds
  | _=>.ob n
 |d=>d
section
variable {K:Frag}{mg:Str->Option Value}{H0 H F H' F':Hp}{as as':List Addr}{O:aq}{v:V}{d:D}
theorem Sv.gr(h:Sv K H F as v d)(g:Gr H F as H' F' as'):Sv K H' F' as' v d:=by
 rcases h with h | ⟨a,f,l,k,j,c,b,i⟩
 ·exact .inl (h.gr g)
 ·exact .inr ⟨a,f,l,k,j,g.fr _ _ c b rfl,g.out b (by rw[c];exact λz=>nomatch z),i.gr g⟩
theorem Sv.lk(h:Sv K H F as v d)(r:RlO K mg O H F as):Lk K H F as v (bK O d):=by
 rcases h with h | ⟨a,b,c,rfl,rfl,i,l,g⟩
 ·cases d with
  |ob n =>
   obtain⟨a,rfl,f⟩:=h.unO;unfold bK;dsimp only
   split
   ·rename_i c e;obtain⟨b,k,j⟩:=r.ob n a _ f e;exact .inr ⟨a,b,c,rfl,rfl,k,j⟩
   ·exact .inl (Rp.mkO f)
  | _=>exact .inl h
 ·exact .inr ⟨a,b,c,rfl,rfl,i,g⟩
theorem Lk.list{ds:List D}(h:Lk K H F as v (.lst ds))(fh:Same F H):∃a xs,v=.ref a/\RdK K H a xs/\Rps K F as xs ds:=by
 rcases h with h | ⟨a,xs,i,g,f,c,b⟩
 ·obtain⟨a,xs,e,h1,h2⟩:=h.unL;exact⟨a,xs,e,h1.mono fh,h2⟩
 ·cases f;exact⟨a,xs,g,.inl (.inl c),b⟩
theorem Lk.rp(h:Lk K H F as v d)(b:jD d=true):Rp K F as v d:=by
 rcases h with h | ⟨a,f,c,j,rfl,i,g⟩
 ·exact h
 ·cases b
theorem Sv.rp(h:Sv K H F as v d)(b:jD d=true):Rp K F as v d:=by
 rcases h with h | ⟨a,f,c,j,rfl,i,g⟩
 ·exact h
 ·cases b
theorem Ow.sv{N:Addr->Prop}(h:Ow K N H F as v d):Sv K H F as v d:=by
 rcases h with⟨_,h⟩ | ⟨a,b,k,j,i,g,m,f,l,c⟩
 ·exact .inl h
 ·exact .inr ⟨a,b,k,j,i,g,f,c⟩
theorem Gr.lay{p:Addr}{o:HO}(b:H p=none):Gr H F as (upd H p o) F as :=
 ⟨λ_ _ _ _ _=>rfl,Same.refl F,⟨[],by simp,λ_ h=>nomatch h⟩,λa c e _ _=>by rw[aQ (cI e b)];exact e,λa e=>by
  by_cases h:a=p
  ·subst h;exact b
  ·rwa [aQ h] at e,λa c u e=>by rw[aQ (cI e b)];exact e⟩
theorem ObR.keep{a:Addr}{o:Ob}(h:ObR K mg H F as a o)(f:H' a=H a)(e:Same F F')(g:∀(n:Nat) (a:Addr),as[n]?=some a->as'[n]?=some a):ObR K mg H' F' as' a o:=by
 cases o with
 |ins c fs =>
  obtain⟨C,k,gs,h1,h2,h3,h4⟩:=h;exact⟨C,k,gs,h1,by rw[f];exact h2,h3,Rps.mono e g _ h4⟩
 |ml ds =>
  obtain⟨b,h1,h2⟩:=h;exact⟨b,by rw[f];exact h1,Rps.mono e g _ h2⟩
 |dt kvs =>
  obtain⟨b,h1,h2,h3⟩:=h;exact⟨b,by rw[f];exact h1,h2,Rps.mono e g _ h3⟩
 |df kvs =>
  obtain⟨o,b,h1,h2,h3⟩:=h;exact⟨o,b,by rw[f];exact h1,h2,Rps.mono e g _ h3⟩
 |dk kvs =>
  obtain⟨b,h1,h2,h3⟩:=h;exact⟨b,by rw[f];exact h1,h2,Rps.mono e g _ h3⟩
 |kf kvs =>
  obtain⟨o,b,h1,h2,h3⟩:=h;exact⟨o,b,by rw[f];exact h1,h2,Rps.mono e g _ h3⟩
 |xc c fs =>
  obtain⟨C,i,u,h1,h2,h3,h4,j⟩:=h;exact⟨C,i,u,h1,by rw[f];exact h2,h3,h4,j.mono e g⟩
 |gone =>
  obtain⟨φ,h1⟩:=h;exact⟨φ,by rw[f];exact h1⟩
 |dn kvs =>
  obtain⟨b,h1,h2,h3⟩:=h;exact⟨b,by rw[f];exact h1,h2,Rps.mono e g _ h3⟩
 |nf kvs =>
  obtain⟨o,b,h1,h2,h3⟩:=h;exact⟨o,b,by rw[f];exact h1,h2,Rps.mono e g _ h3⟩
theorem RlO.at{n:Nat}{a:Addr}{o:Ob}(r:RlO K mg O H F as)(g:as[n]?=some a)(f:O[n]?=some o):H a≠none:=by
 have q:=r.ob n a o g f
 cases o with
 |ins c fs=>obtain⟨C,i,gs,h1,h2,_⟩:=q;rw[h2];exact λz=>nomatch z
 |ml j=>obtain⟨b,h1,_⟩:=q;rw[h1];exact λz=>nomatch z
 |dt kvs=>obtain⟨b,h1,_⟩:=q;rw[h1];exact λz=>nomatch z
 |df kvs=>obtain⟨o,b,h1,_⟩:=q;rw[h1];exact λz=>nomatch z
 |dk kvs=>obtain⟨b,h1,_⟩:=q;rw[h1];exact λz=>nomatch z
 |kf kvs=>obtain⟨o,b,h1,_⟩:=q;rw[h1];exact λz=>nomatch z
 |xc c fs=>obtain⟨C,h,u,_,h1,_⟩:=q;rw[h1];exact λz=>nomatch z
 |gone=>obtain⟨φ,h1⟩:=q;rw[h1];exact λz=>nomatch z
 |dn kvs=>obtain⟨b,h1,_⟩:=q;rw[h1];exact λz=>nomatch z
 |nf kvs=>obtain⟨o,b,h1,_⟩:=q;rw[h1];exact λz=>nomatch z
theorem RlO.all{a:Addr}(r:RlO K mg O H F as)(c:a∈as):H a≠none:=by
 obtain⟨n,b,e⟩:=List.mem_iff_getElem.mp c
 have f:n<O.length:=by rw[<-r.len];exact b
 exact r.at (n:=n) (by rw[zx b,e]) (zx f)
theorem RlO.lay{p:Addr}{o:HO}(r:RlO K mg O H F as)(c:H p=none):RlO K mg O (upd H p o) F as:=by
 refine⟨λa u e=>?_,r.fd,r.nd,r.len,r.fa,λn a u f b=>(r.ob n a u f b).keep (aQ ?_) (Same.refl F) λ_ _ h=>h⟩
 ·have q:=r.fh a u e;rw[aQ (cI q c)];exact q
 ·intro z;subst z;exact r.at f b c
theorem Gr.frz{p:Addr}{o:HO}(f:H p=none)(g:Gr H F as H' F' as')(i:F' p=none):Gr H F as H' (upd F' p o) as' :=
 ⟨λa c b h hd=>by rw[aQ (λz=>by subst z;rw[f] at b;cases b)];exact g.fz a c b h hd,λa u e=>by
  have q:=g.ff a u e
  rw[aQ (cI q i)];exact q,g.nw,g.fr,g.dm,g.kz⟩
theorem RlO.frz{p:Addr}{o:HO}(r:RlO K mg O H F as)(b:H p=some o)(c:F p=none)(f:p∉as)(hd:isD o=true):RlO K mg O H (upd F p o) as:=by
 have ff:Same F (upd F p o):=λa u e=>by rw[aQ (cI e c)];exact e
 refine⟨λa u e=>?_,λa u e=>?_,r.nd,r.len,λa h=>?_,λn a u h1 h2=>(r.ob n a u h1 h2).keep rfl ff λ_ _ h=>h⟩
 ·by_cases h:a=p
  ·subst h;rw[cg] at e;cases e;exact b
  ·rw[aQ h] at e;exact r.fh a u e
 ·by_cases h:a=p
  ·subst h;rw[cg] at e;cases e;exact hd
  ·rw[aQ h] at e;exact r.fd a u e
 ·rw[aQ (λz=>by subst z;exact f h)];exact r.fa a h
end
abbrev RR:=(Addr->Prop)->Hp->Hp->List Addr->V->D->Prop
def rV(K:Frag):RR:=λ_ _ F a v d=>Rp K F a v d
def rS(K:Frag):RR:=λ_ H F a v d=>Sv K H F a v d
def rO(K:Frag):RR:=λN H F a v d=>Ow K N H F a v d
def rA(K:Frag):Md->RR
 | .v=>rV K
 | _=>rS K
def gf(R:RR):Prop:=∀(N c:Addr->Prop) (H F:Hp) (b:List Addr) (v:V) (d:D),(∀a,N a->c a)->R N H F b v d->R c H F b v d
theorem cA{K:Frag}:gf (rV K):=λ_ _ _ _ _ _ _ _ h=>h
theorem du{K:Frag}:gf (rO K):=λN r H F q v d c h=>by
 rcases h with h | ⟨a,b,n,m,l,k,j,i,g,f⟩
 ·exact .inl h
 ·exact .inr ⟨a,b,n,m,l,k,j,i,c a g,f⟩
def tM(K:Frag)(mg:Str->Option Value)(md:List Md)(P:Pt)(R:RR)(m:M D):TE:=λσ H Q =>
 ∃ρ O F f d h,RlO K mg O H F f/\SlO K md P ρ σ H F f/\m ρ O=.ok d h /\
  ∀v c g b,Gr H F f c g b->RlO K mg h c g b->R (λa=>H a=none) c g b v d->Q v c
def tMT(K:Frag)(mg:Str->Option Value)(md:List Md)(P:Pt)(m:M Bool):TT:=λσ H Q =>
 ∃ρ O F c b f,RlO K mg O H F c/\SlO K md P ρ σ H F c/\m ρ O=.ok b f /\
  ∀d g a,Gr H F c d g a->RlO K mg f d g a->Q b d
def c7(K:Frag)(H F:Hp)(a:List Addr):List Md->List V->List D->Prop
 | [],[],[]=>True
 |m::ms,v::vs,d::ds=>rA K m (λ_=>True) H F a v d/\c7 K H F a ms vs ds
 | _,_,_=>False
def tMA(K:Frag)(mg:Str->Option Value)(md:List Md)(P:Pt)(ms:List Md)(m:M (List D)):TA:=λσ H Q =>
 ∃ρ O F c g h,RlO K mg O H F c/\SlO K md P ρ σ H F c/\m ρ O=.ok g h /\
  ∀f b d a,Gr H F c b d a->RlO K mg h b d a->c7 K b d a ms f g->Q f b
def XE(X:Cx)(md:List Md)(P:Pt)(R:RR)(e:Expr)(m:M D):Prop:=PE X e (tM X.K X.mg md P R m)
def VE(X:Cx)(md:List Md)(P:Pt)(e:Expr)(m:M D):Prop:=PE X e (tM X.K X.mg md P (rV X.K) m)
def SE(X:Cx)(md:List Md)(P:Pt)(e:Expr)(m:M D):Prop:=PE X e (tM X.K X.mg md P (rS X.K) m)
def OE(X:Cx)(md:List Md)(P:Pt)(e:Expr)(m:M D):Prop:=PE X e (tM X.K X.mg md P (rO X.K) m)
def TsE(X:Cx)(md:List Md)(P:Pt)(e:Expr)(m:M Bool):Prop:=PT X e (tMT X.K X.mg md P m)
def TwE(X:Cx)(md:List Md)(P:Pt)(e:Expr)(m:M Bool):Prop:=PW X e (tMT X.K X.mg md P m)
def AE(X:Cx)(md:List Md)(P:Pt)(ms:List Md)(es:List Expr)(m:M (List D)):Prop:=PA X es (tMA X.K X.mg md P ms m)
def kE(K:Frag)(mg:Str->Option Value)(md:List Md)(P:Pt)(R:RR)(D:Ends)(H F:Hp)(h:List Addr):Fl->Prop
 | .nx ρ' O'=>∀f c g b,GrS P H F h c g b->RlO K mg O' c g b->SlO K md P ρ' f c g b->D.nx f c
 | .bk ρ' O'=>∀f c g b,GrS P H F h c g b->RlO K mg O' c g b->SlO K md P ρ' f c g b->D.bk f c
 | .ct ρ' O'=>∀f c g b,GrS P H F h c g b->RlO K mg O' c g b->SlO K md P ρ' f c g b->D.ct f c
 | .rt d O'=>∀v c g b,GrS P H F h c g b->RlO K mg O' c g b->R (λa=>¬P a) c g b v d->D.rt v c
 | .ex _ _=>False
 | .no=>False
def tMS(K:Frag)(mg:Str->Option Value)(md:List Md)(P:Pt)(R:RR)(m:MS):TS:=λD σ H =>
 ∃ρ O F a,RlO K mg O H F a/\SlO K md P ρ σ H F a/\kE K mg md P R D H F a (m ρ O)
def VS(X:Cx)(md:List Md)(P:Pt)(R:RR)(st:Stmt)(m:MS):Prop:=PS X st (tMS X.K X.mg md P R m)
def VSs(X:Cx)(md:List Md)(P:Pt)(R:RR)(st:List Stmt)(m:MS):Prop:=PSs X st (tMS X.K X.mg md P R m)
section
variable {X:Cx}{md:List Md}{P:Pt}{R:RR}
theorem PE.imp{e:Expr}{t t':TE}(h:PE X e t)(k:∀σ H Q,t' σ H Q->t σ H Q):PE X e t':=λpins s σ H Q I q=>h pins s σ H Q I (k σ H Q q)
theorem PT.imp{e:Expr}{t t':TT}(h:PT X e t)(k:∀σ H Q,t' σ H Q->t σ H Q):PT X e t':=λpins s σ H Q I q=>h pins s σ H Q I (k σ H Q q)
theorem PW.imp{e:Expr}{t t':TT}(h:PW X e t)(k:∀σ H Q,t' σ H Q->t σ H Q):PW X e t':=λw pins s σ H Q I q=>h w pins s σ H Q I (k σ H Q q)
theorem PA.imp{e:List Expr}{t t':TA}(h:PA X e t)(k:∀σ H Q,t' σ H Q->t σ H Q):PA X e t':=λa pins s σ H Q I q=>h a pins s σ H Q I (k σ H Q q)
theorem PS.imp{e:Stmt}{t t':TS}(h:PS X e t)(k:∀D σ H,t' D σ H->t D σ H):PS X e t':=λpins s σ H D I q=>h pins s σ H D I (k D σ H q)
theorem PSs.imp{e:List Stmt}{t t':TS}(h:PSs X e t)(k:∀D σ H,t' D σ H->t D σ H):PSs X e t':=λpins s σ H D I q=>h pins s σ H D I (k D σ H q)
def aa(i:Nat):M D:=λρ O=>match ρ[i]? with
 |some (some d)=>.ok d O
 | _=>.no
def mC(d:D):M D:=λ_ O=>.ok d O
def mG(m:M D):M D:=λρ O=>match m ρ O with
 | .ok d O'=>if jD d=true then .ok d O' else .no
 |r=>r
theorem qP{i:Nat}{ρ:aA}{O a:aq}{d:D}(h:aa i ρ O=.ok d a):ρ[i]?=some (some d)/\a=O:=by
 unfold aa at h;split at h
 ·rename_i b e;cases h;exact⟨e,rfl⟩
 ·cases h
theorem Ia{m:M D}{ρ:aA}{O b:aq}{d:D}(h:mG m ρ O=.ok d b):m ρ O=.ok d b/\jD d=true:=by
 unfold mG at h;split at h
 ·rename_i f g e;split at h
  ·rename_i c;cases h;exact⟨e,c⟩
  ·cases h
 ·rename_i a;exact absurd h (a _ _)
theorem SlO.get{K:Frag}{ρ:aA}{σ:St}{H F:Hp}{b:List Addr}{i:Nat}{d:D}(s:SlO K md P ρ σ H F b)(h:ρ[i]?=some (some d)):∃m v,md[i]?=some m/\σ[i]?=some (some v)/\iI P K H F b m v d:=by
 have a:i<md.length:=by rw[<-s.len'];exact(zq.mp h).1
 obtain⟨v,h1,h2⟩:=s.sl i md[i] d (zx a) h;exact⟨_,v,zx a,h1,h2⟩
theorem iI.sv{K:Frag}{H F:Hp}{l:List Addr}{m:Md}{v:V}{d:D}(h:iI P K H F l m v d):Sv K H F l v d:=by
 cases m with
 |v=>exact .inl h
 |s =>
  rcases h with h | ⟨a,b,k,j,i,g,f,n,c⟩
  ·exact .inl h
  ·exact .inr ⟨a,b,k,j,i,g,f,c⟩
 |o =>
  rcases h with⟨_,h⟩ | ⟨a,b,k,j,i,g,q,f,n,c⟩
  ·exact .inl h
  ·exact .inr ⟨a,b,k,j,i,g,f,c⟩
theorem aG(i:Nat){x:Str}{a:Pos}(hN:X.N[i]?=some x:=by rfl)(c:Vis X.env.scope x:=by first | exact Or.inl rfl | exact Or.inr (Or.inl rfl) | exact Or.inr (Or.inr rfl))
  (hd:(x == ("__debug__":Str))=false:=by decide) (b:(x == ("__classdict__":Str))=false:=by decide):SE X md P (.Name x a) (aa i):=by
 refine(lM (i:=i) hN c hd b).imp λσ H Q h=>?_
 obtain⟨ρ,O,F,g,d,j,r,s,e,k⟩:=h;obtain⟨f,rfl⟩:=qP e;obtain⟨m,v,h1,h2,h3⟩:=s.get f;exact⟨v,h2,k v H F g Gr.refl r h3.sv⟩
theorem az(i:Nat){x:Str}{a:Pos}(f:md[i]?=some .v:=by rfl)(hN:X.N[i]?=some x:=by rfl)(c:Vis X.env.scope x:=by first | exact Or.inl rfl | exact Or.inr (Or.inl rfl) | exact Or.inr (Or.inr rfl))
  (hd:(x == ("__debug__":Str))=false:=by decide) (b:(x == ("__classdict__":Str))=false:=by decide):VE X md P (.Name x a) (aa i):=by
 refine(lM (i:=i) hN c hd b).imp λσ H Q h=>?_
 obtain⟨ρ,O,F,j,d,l,r,s,e,k⟩:=h;obtain⟨g,rfl⟩:=qP e;obtain⟨v,h2,h3⟩:=s.sl i .v d f g;exact⟨v,h2,k v H F j Gr.refl r h3⟩
theorem ao{e:Expr}{m:M D}(h:VE X md P e m):SE X md P e m:=h.imp λσ H Q q=>by
 obtain⟨ρ,O,F,f,d,l,r,s,e,k⟩:=q;exact⟨ρ,_,F,f,_,_,r,s,e,λv i j a g b c=>k v i j a g b (.inl c)⟩
theorem aR{e:Expr}{m:M D}(h:OE X md P e m):SE X md P e m:=h.imp λσ H Q q=>by
 obtain⟨ρ,O,F,f,d,l,r,s,e,k⟩:=q;exact⟨ρ,_,F,f,_,_,r,s,e,λv i j a g b c=>k v i j a g b (Ow.sv c)⟩
theorem cP{e:Expr}{m:M D}(h:SE X md P e m):VE X md P e (mG m):=h.imp λσ H Q q=>by
 obtain⟨ρ,O,F,i,d,n,r,s,e,k⟩:=q;obtain⟨e,f⟩:=Ia e;exact⟨ρ,_,F,i,_,_,r,s,e,λv j l a g b c=>k v j l a g b (Sv.rp c f)⟩
theorem uq{e:Expr}{m:M D}(h:VE X md P e m):OE X md P e (mG m):=h.imp λσ H Q q=>by
 obtain⟨ρ,O,F,i,d,n,r,s,e,k⟩:=q;obtain⟨e,f⟩:=Ia e;exact⟨ρ,_,F,i,_,_,r,s,e,λv j l a g b c=>k v j l a g b (.inl ⟨f,c⟩)⟩
theorem bz{e:Expr}{m:M D}(h:OE X md P e m):VE X md P e m:=h.imp λσ H Q q=>by
 obtain⟨ρ,O,F,E,d,I,r,s,e,k⟩:=q;refine⟨ρ,_,F,E,_,_,r,s,e,λv t f c g n i=>?_⟩
 rcases i with⟨_,i⟩ | ⟨a,l,G,rfl,rfl,C,j,B,y,x⟩
 ·exact k v t f c g n i
 ·have ff:Same f (upd f a (.lst l)):=λb u q=>by rw[aQ (cI q j)];exact q
  refine k _ t (upd f a (.lst l)) c (g.frz y j) (n.frz C j B rfl) (Rp.mkL (.inl (.inl cg)) (Rps.mono ff (λ_ _ z=>z) _ x))
theorem qQ{e:Expr}{v:V}{d:D}(h:PE X e (tC v))(hd:∀K F a,Rp K F a v d):VE X md P e (mC d):=h.imp λσ H Q q=>by
 obtain⟨ρ,O,F,a,d,b,r,s,e,k⟩:=q;cases e;exact k v H F a Gr.refl r (hd _ _ _)
theorem aF{i:Int}{j pos}:VE X md P (.Constant (.int i) j pos) (mC (.int i)):=qQ QG λ_ _ _=>Rp.int
theorem gZ{b:Bool}{j pos}:VE X md P (.Constant (.bool b) j pos) (mC (.bl b)):=qQ QH λ_ _ _=>Rp.bl
theorem lU{j pos}:VE X md P (.Constant .none j pos) (mC .non):=qQ QJ λ_ _ _=>Rp.non
theorem aP{x:Str}{j pos}(l:List Nat)(a:x=S l:=by decide +kernel):VE X md P (.Constant (.str x) j pos) (mC (.str l)):=qQ Gw λ_ _ _=>by rw[a];exact Rp.str
theorem kI{x:Str}{v:V}{d:D}{a:Pos}(h:∃u,X.mg x=some u/\RelV v u)(hd:∀K F f,Rp K F f v d)(c:Gl X x:=by rfl)(b:(x == ("__debug__":Str))=false:=by decide):VE X md P (.Name x a) (mC d):=qQ (HN h c b) hd
def au:M (List D):=λ_ O=>.ok [] O
def aj(m:M D)(r:M (List D)):M (List D):=λρ O=>(m ρ O).bind λd c=>(r ρ c).bind λa b=>.ok (d::a) b
theorem aD:AE X md P [] [] au:=jz.imp λσ H Q q=>by
 obtain⟨ρ,O,F,a,d,b,r,s,e,k⟩:=q;cases e;exact k [] H F a Gr.refl r trivial
theorem rA.gr{K:Frag}{m:Md}{N:Addr->Prop}{H F c f:Hp}{a b:List Addr}{v:V}{d:D}(h:rA K m N H F a v d)(g:Gr H F a c f b):rA K m (λ_=>True) c f b v d:=by
 cases m with
 |v=>exact Rp.gr (show Rp K F a v d from h) g
 |s=>exact Sv.gr (show Sv K H F a v d from h) g
 |o=>exact Sv.gr (show Sv K H F a v d from h) g
theorem c7.gr{K:Frag}{H F c f:Hp}{b a:List Addr}(g:Gr H F b c f a):∀{ms:List Md}{vs:List V}{ds:List D},c7 K H F b ms vs ds->c7 K c f a ms vs ds
 | [],[],[],_=>trivial
 |m::ms,v::vs,d::ds,h=>⟨rA.gr h.1 g,c7.gr g h.2⟩
 | [],[],_::_,h=>h.elim
 | [],_::_,[],h=>h.elim
 | [],_::_,_::_,h=>h.elim
 | _::_,[],[],h=>h.elim
 | _::_,[],_::_,h=>h.elim
 | _::_,_::_,[],h=>h.elim
theorem Ib(a:Md){e:Expr}{es:List Expr}{m:M D}{ms:List Md}{r:M (List D)}(h:XE X md P (rA X.K a) e m)(x:AE X md P ms es r)
  (hs:starEach (e::es) X.env=(false,eval e X.env)::starEach es X.env:=by exact cV rfl):AE X md P (a::ms) (e::es) (aj m r):=(gW h x hs).imp λσ H Q q=>by
 obtain⟨ρ,O,F,C,d,U,t,s,e,k⟩:=q;obtain⟨d,T,B,e⟩:=Res.bind_ok e;obtain⟨J,L,y,e⟩:=Res.bind_ok e;cases e;refine⟨ρ,_,F,C,_,_,t,s,B,λv W I f i n u=>?_⟩;refine⟨ρ,_,I,f,_,_,n,s.step i,y,λj E G c g l b=>?_⟩;exact k (v::j) E G c (i.trans g) l ⟨rA.gr u g,b⟩
theorem aU{e:Expr}{es:List Expr}{m:M D}{ms:List Md}{r:M (List D)}(h:VE X md P e m)(a:AE X md P ms es r)
  (hs:starEach (e::es) X.env=(false,eval e X.env)::starEach es X.env:=by exact cV rfl):AE X md P (.v::ms) (e::es) (aj m r):=Ib .v h a hs
theorem aH{e:Expr}{es:List Expr}{m:M D}{ms:List Md}{r:M (List D)}(h:SE X md P e m)(a:AE X md P ms es r)
  (hs:starEach (e::es) X.env=(false,eval e X.env)::starEach es X.env:=by exact cV rfl):AE X md P (.s::ms) (e::es) (aj m r):=Ib .s h a hs
theorem c7.rps{K:Frag}{H F:Hp}{a:List Addr}:∀{n:Nat}{vs:List V}{ds:List D},c7 K H F a (List.replicate n .v) vs ds->Rps K F a vs ds
 | 0,[],[],_=>Rps.nil
 |n+1,v::vs,d::ds,h=>by
  rw[List.replicate_succ] at h;exact Rps.cons h.1 (c7.rps h.2)
 | 0,[],_::_,h=>h.elim
 | 0,_::_,[],h=>h.elim
 | 0,_::_,_::_,h=>h.elim
 |n+1,[],[],h=>h.elim
 |n+1,[],_::_,h=>h.elim
 |n+1,_::_,[],h=>h.elim
def bV(r:M (List D)):M D:=λρ O=>(r ρ O).bind λa b=>if a.length<=1000000 then .ok (.lst a) b else .no
def bT(r:M (List D)):M D:=λρ O=>(r ρ O).bind λa b=>if a.length<=1000000 then .ok (.tup a) b else .no
theorem g8{n:Nat}(h:n<=1000000):n<=sizeLine:=zG h (by decide)
theorem dF{es:List Expr}{f:Pos}{r:M (List D)}(n:Nat)(h:AE X md P (List.replicate n .v) es r):OE X md P (.List es f) (bV r):=(Th h).imp λσ H Q q=>by
 obtain⟨ρ,O,F,u,d,y,l,s,e,k⟩:=q;obtain⟨ds,x,t,e⟩:=Res.bind_ok e;split at e
 ·rename_i hz;cases e;refine⟨ρ,_,F,u,_,_,l,s,t,λvs B c g j b hv=>?_⟩;have i:=hv.rps;refine⟨by rw[i.length];exact g8 hz,λp a=>?_⟩
  have m:c p=none:=by
   cases q:c p with
   |none=>rfl
   |some o=>rw[b.fh p o q] at a;cases a
  refine k _ _ c g (j.trans (Gr.lay a)) (b.lay a) (.inr ⟨p,vs,ds,rfl,rfl,cg,m,λz=>b.all z a,j.dm p a,i⟩)
 ·cases e
theorem cW{es:List Expr}{i:Pos}{x1}{r:M (List D)}(n:Nat)(h:AE X md P (List.replicate n .v) es r):VE X md P (.Tuple es x1 i) (bT r):=(Tg h).imp λσ H Q q=>by
 obtain⟨ρ,O,F,y,d,C,t,s,e,k⟩:=q;obtain⟨ds,B,x,e⟩:=Res.bind_ok e;split at e
 ·rename_i hz;cases e;refine⟨ρ,_,F,y,_,_,t,s,x,λvs E c j m f hv=>?_⟩;have l:=hv.rps;refine⟨by rw[l.length];exact g8 hz,λp a=>?_⟩
  have g:c p=none:=by
   cases q:c p with
   |none=>rfl
   |some o=>rw[f.fh p o q] at a;cases a
  have ff:Same c (upd c p (.tup vs)):=λb u q=>by rw[aQ (cI q g)];exact q
  refine k _ _ (upd c p (.tup vs)) j ((m.trans (Gr.lay a)).frz (m.dm p a) g) ((f.lay a).frz cg g (λz=>f.all z a) rfl) (Rp.mkT (.inl cg) (Rps.mono ff (λ_ _ z=>z) _ l))
 ·cases e
def rD(K:Frag)(mg:Str->Option Value)(g:D->D->Option D):R2:=λx y H Q=>∃O F b j i d,RlO K mg O H F b/\Lk K H F b x j/\Lk K H F b y i/\g j i=some d /\
 ∀h c f,Gr H F b c f b->RlO K mg O c f b->Ow K (λa=>H a=none) c f b h d->Q h c
abbrev OpD(X:Cx)(f:Value->Value->Sem Value)(g:D->D->Option D):Prop:=OpR X f (rD X.K X.mg g)
def ak(g:D->D->Option D)(b mb:M D):M D:=λρ O=>(b ρ O).bind λx c=>(mb ρ c).bind λy a=>match g (bK a x) (bK a y) with
 |some d=>.ok d a
 |none=>.no
theorem xP{K:Frag}{mg:Str->Option Value}{g:D->D->Option D}{l mb:M D}{σ:St}{H:Hp}{Q:VK}(h:tM K mg md P (rO K) (ak g l mb) σ H Q):tOp (rD K mg g) (tM K mg md P (rS K) l) (tM K mg md P (rS K) mb) σ H Q:=by
 obtain⟨ρ,O,F,T,d,O',r,sl,e,k⟩:=h;obtain⟨x,O1,L,e⟩:=Res.bind_ok e;obtain⟨y,O2,J,e⟩:=Res.bind_ok e;split at e
 ·rename_i d' E;cases e;refine⟨ρ,_,F,T,_,_,r,sl,L,λv H1 Y j i n B=>?_⟩;refine⟨ρ,_,Y,j,_,_,n,sl.step i,J,λu H2 W b f c C=>?_⟩;refine⟨_,W,b,_,_,_,c,Sv.lk (Sv.gr B f) c,Sv.lk C c,E,λm U Z I q t=>?_⟩;exact k m U Z b ((i.trans f).trans I) q (du _ _ _ _ _ _ _ (λa G=>(i.trans f).dm a G) t)
 ·cases e
theorem bf{d c:Expr}{a:Pos}{op:Operator}{g:D->D->Option D}{b mb:M D}(f:OpD X (binaryOp op) g)(h:SE X md P d b)(hb:SE X md P c mb):OE X md P (.BinOp d op c a) (ak g b mb):=
 (RL f h hb).imp λ_ _ _=>xP
theorem ig{d a:Expr}{b:Pos}{op:CmpOp}{g:D->D->Option D}{c mb:M D}(f:OpD X (compareOp op) g)(i:SE X md P d c)(hb:SE X md P a mb)(h:behindInMarks op a=false):OE X md P (.Compare d [op] [a] b) (ak g c mb):=
 (R7 f i hb h).imp λ_ _ _=>xP
def aB(m:M D):M Bool:=λρ O=>(m ρ O).bind λd a=>match d with
 | .bl b=>.ok b a
 | _=>.no
theorem xQ{K:Frag}{mg:Str->Option Value}{m:M D}{σ:St}{H:Hp}{Q:Bool->Hp->Prop}(h:tMT K mg md P (aB m) σ H Q):w6 (tM K mg md P (rO K) m) σ H Q:=by
 obtain⟨ρ,O,F,n,d,B,r,sl,e,k⟩:=h;obtain⟨d,y,l,e⟩:=Res.bind_ok e
 cases d with
 |bl c =>
  cases e;refine⟨ρ,_,F,n,_,_,r,sl,l,λv q t f i g b=>?_⟩
  rcases b with⟨_,b⟩ | ⟨a,u,x,_,j,_⟩
  ·exact⟨_,b.unB,k q t f i g⟩
  ·cases j
 | _=>cases e
theorem bj{d a:Expr}{b:Pos}{op:CmpOp}{g:D->D->Option D}{c mb:M D}(f:OpD X (compareOp op) g)(j:SE X md P d c)(hb:SE X md P a mb)(i:behindInMarks op a=false):TsE X md P (.Compare d [op] [a] b) (aB (ak g c mb)):=
 (R8 f j hb i).imp λσ H Q h=>by
  have q:=xQ h;exact xP q
def qR(g g':D->D->Option D)(f mb c:M D):M D:=λρ O=>(f ρ O).bind λx h=>(mb ρ h).bind λy a=>match g (bK a x) (bK a y) with
 |some (.bl true)=>(c ρ a).bind λz b=>match g' (bK b y) (bK b z) with
  |some d=>.ok d b
  |none=>.no
 |some (.bl false)=>.ok (.bl false) a
 | _=>.no
theorem VF{K:Frag}{mg:Str->Option Value}{g g':D->D->Option D}{T mb L:M D}{σ:St}{H:Hp}{Q:VK}(h:tM K mg md P (rO K) (qR g g' T mb L) σ H Q):
  G5 (rD K mg g) (rD K mg g') (tM K mg md P (rS K) T) (tM K mg md P (rS K) mb) (tM K mg md P (rS K) L) σ H Q:=by
 obtain⟨ρ,O,F,as,d,O',r,sl,e,k⟩:=h;obtain⟨x,O1,e1,e⟩:=Res.bind_ok e;obtain⟨y,O2,e2,e⟩:=Res.bind_ok e;refine⟨ρ,_,F,as,_,_,r,sl,e1,λv H1 F1 J C r1 U=>?_⟩;refine⟨ρ,_,F1,J,_,_,r1,sl.step C,e2,λu H2 Y b j f n=>?_⟩;split at e
 ·rename_i q;obtain⟨z,O3,e3,e⟩:=Res.bind_ok e;refine⟨_,Y,b,_,_,_,f,Sv.lk (Sv.gr U j) f,Sv.lk n f,q,λv' W E g' m c=>?_⟩
  rcases c with⟨_,c⟩ | ⟨a,Z,ds,_,z,_⟩
  ·refine⟨true,c.unB,?_⟩;rw[if_pos rfl];split at e
   ·rename_i d' I;cases e;have B:=(C.trans j).trans g';refine⟨ρ,_,E,b,_,_,m,sl.step B,e3,λw H4 F4 i t l hz=>?_⟩;refine⟨_,F4,i,_,_,_,l,Sv.lk (Sv.gr (Sv.gr n g') t) l,Sv.lk hz l,I,λv5 H5 F5 g5 r5 G=>?_⟩;exact k v5 H5 F5 i ((B.trans t).trans g5) r5 (du _ _ _ _ _ _ _ (λa ha=>(B.trans t).dm a ha) G)
   ·cases e
  ·cases z
 ·rename_i q;cases e;refine⟨_,Y,b,_,_,_,f,Sv.lk (Sv.gr U j) f,Sv.lk n f,q,λv' W E g' m c=>?_⟩
  rcases c with⟨_,c⟩ | ⟨a,Z,ds,_,z,_⟩
  ·refine⟨false,c.unB,?_⟩;rw[if_neg zf];exact k _ W E b ((C.trans j).trans g') m (.inl ⟨rfl,Rp.bl⟩)
  ·cases z
 ·cases e
theorem VH{a b c:Expr}{f:Pos}{op d:CmpOp}{g g':D->D->Option D}{j mb i:M D}(k:OpD X (compareOp op) g)(h:OpD X (compareOp d) g')(n:SE X md P a j)(hb:SE X md P b mb)(m:SE X md P c i)
  (l:lastMarks [op,d] [b,c]=false:=by with_unfolding_all rfl):OE X md P (.Compare a [op,d] [b,c] f) (qR g g' j mb i):=(R9 k h n hb m l).imp λ_ _ _=>VF
def isNon:D->Bool
 | .non=>true
 | _=>false
def jE(m:M D):M D:=λρ O=>(m ρ O).bind λd a=>.ok (.bl (isNon d)) a
def ir(m:M D):M D:=λρ O=>(m ρ O).bind λd a=>.ok (.bl (!isNon d)) a
theorem Sv.isN{K:Frag}{H F:Hp}{f:List Addr}{v:V}{d:D}(h:Sv K H F f v d):decide (v=.non)=isNon d:=by
 rcases h with h | ⟨a,c,g,rfl,rfl,_⟩
 ·cases d with
  |non=>rw[h.unN];rfl
  |bl b=>rw[h.unB];rfl
  |int b=>rw[h.unI];rfl
  |str b=>rw[h.unS];rfl
  |lst b=>obtain⟨a,c,rfl,_⟩:=h.unL;rfl
  |tup b=>obtain⟨a,c,rfl,_⟩:=h.unT;rfl
  |dic k b=>obtain⟨a,c,rfl,_⟩:=h.unD;rfl
  |ob b=>obtain⟨a,rfl,_⟩:=h.unO;rfl
 ·rfl
theorem VJ{K:Frag}{mg:Str->Option Value}{m:M D}{σ:St}{H:Hp}{Q:VK}(h:tM K mg md P (rO K) (jE m) σ H Q):Gx (tM K mg md P (rS K) m) σ H Q:=by
 obtain⟨ρ,O,F,i,d,q,r,sl,e,k⟩:=h;obtain⟨x,n,g,e⟩:=Res.bind_ok e;cases e;refine⟨ρ,_,F,i,_,_,r,sl,g,λv j l a f b c=>?_⟩;dsimp only;rw[Sv.isN c];exact k _ j l a f b (.inl ⟨rfl,Rp.bl⟩)
theorem VL{K:Frag}{mg:Str->Option Value}{m:M D}{σ:St}{H:Hp}{Q:VK}(h:tM K mg md P (rO K) (ir m) σ H Q):Gy (tM K mg md P (rS K) m) σ H Q:=by
 obtain⟨ρ,O,F,i,d,q,r,sl,e,k⟩:=h;obtain⟨x,n,g,e⟩:=Res.bind_ok e;cases e;refine⟨ρ,_,F,i,_,_,r,sl,g,λv j l a f b c=>?_⟩;dsimp only;rw[Sv.isN c];exact k _ j l a f b (.inl ⟨rfl,Rp.bl⟩)
theorem Ie{t t':TE}{σ:St}{H:Hp}{Q:Bool->Hp->Prop}(h:∀a,t σ H a->t' σ H a)(q:w6 t σ H Q):tB t' σ H Q:=h _ q
theorem xR{a:Expr}{b pos':Pos}{j}{m:M D}(h:SE X md P a m):TsE X md P (.Compare a [.Is] [.Constant .none j pos'] b) (aB (jE m)):=(Gz (QQ h)).imp λ_ _ _ q=>Ie (λ_=>VJ) (xQ q)
theorem xT{a:Expr}{b pos':Pos}{j}{m:M D}(h:SE X md P a m):TsE X md P (.Compare a [.IsNot] [.Constant .none j pos'] b) (aB (ir m)):=(Gz (QR h)).imp λ_ _ _ q=>Ie (λ_=>VL) (xQ q)
def oO:D->Option Bool
 | .non=>some false
 | .bl b=>some b
 | .int i=>some (i != 0)
 | .str l=>if l.length<=1000000 then some (!l.isEmpty) else none
 | .lst ds=>some (!ds.isEmpty)
 | .tup ds=>some (!ds.isEmpty)
 | .dic ks _=>some (!ks.isEmpty)
 | .ob _=>none
def bW(m:M D):M Bool:=λρ O=>(m ρ O).bind λd a=>match oO (bK a d) with
 |some b=>.ok b a
 |none=>.no
theorem Ig{α β:Type}{xs:List α}{ys:List β}(h:xs.length=ys.length):(!xs.isEmpty) = !ys.isEmpty:=by
 cases xs<;>cases ys<;>simp_all
theorem Lk.tru{K:Frag}{H F:Hp}{i:List Addr}{v:V}{d:D}{b:Bool}(h:Lk K H F i v d)(fh:Same F H)(e:oO d=some b):xf K v H b:=by
 cases d with
 |non=>rw[(h.rp rfl).unN];cases e;rfl
 |bl b=>rw[(h.rp rfl).unB];cases e;rfl
 |int b=>rw[(h.rp rfl).unI];cases e;rfl
 |str l =>
  rw[(h.rp rfl).unS];simp only[oO] at e;split at e
  ·rename_i g;cases e;refine⟨by rw[eX];exact g8 g,?_⟩;rw[eX]
   cases l with
   |nil=>rfl
   |cons c l =>
    have:((((c::l).length:Nat):Int) != 0)=true:=by
     rw[bne_iff_ne,zo];omega
    rw[this];rfl
  ·cases e
 |lst ds =>
  obtain⟨a,f,rfl,h1,h2⟩:=h.list fh;cases e;exact .inl ⟨f,h1.sq,(Ig h2.length).symm⟩
 |tup ds =>
  obtain⟨a,f,rfl,h1,h2⟩:=(h.rp rfl).unT;cases e;exact .inr (.inl ⟨f,Same.seqT fh h1,(Ig h2.length).symm⟩)
 |dic ks vs =>
  obtain⟨a,kvs,rfl,h1,rfl,h2⟩:=(h.rp rfl).unD;cases e;exact .inr (.inr ⟨kvs,fh _ _ h1,by cases kvs<;>rfl⟩)
 |ob n=>cases e
theorem eQ{a:Expr}{m:M D}(h:SE X md P a m)(i:∀whole,isTrue a X.env whole=(do let v <-whole;standAt a.pos;holding [v] (truthy v)):=by intro _;rfl):TsE X md P a (bW m):=(Sh h i).imp λσ H Q q=>by
 obtain⟨ρ,O,F,t,d,B,r,sl,e,k⟩:=q;obtain⟨d,y,n,e⟩:=Res.bind_ok e;split at e
 ·rename_i c j;cases e;exact⟨ρ,_,F,t,_,_,r,sl,n,λv u x f l b g=>⟨_,Lk.tru (Sv.lk g b) b.fh j,k u x f l b⟩⟩
 ·cases e
def cD(a b:M Bool):M Bool:=λρ O=>(a ρ O).bind λc d=>if c=true then b ρ d else .ok false d
def cB(a b:M Bool):M Bool:=λρ O=>(a ρ O).bind λc d=>if c=true then .ok true d else b ρ d
def dw(a:M Bool):M Bool:=λρ O=>(a ρ O).bind λc b=>.ok (!c) b
theorem VM{K:Frag}{mg:Str->Option Value}{i mb:M Bool}{σ:St}{H:Hp}{Q:Bool->Hp->Prop}(h:tMT K mg md P (cD i mb) σ H Q):GC (tMT K mg md P i) (tMT K mg md P mb) σ H Q:=by
 obtain⟨ρ,O,F,q,d,B,r,sl,e,k⟩:=h;obtain⟨c,y,n,e⟩:=Res.bind_ok e;refine⟨ρ,_,F,q,_,_,r,sl,n,λu j a b g=>?_⟩
 cases c with
 |true =>
  rw[if_pos rfl] at e ⊢;exact⟨ρ,_,j,a,_,_,g,sl.step b,e,λt x f m l=>k t x f (b.trans m) l⟩
 |false =>
  rw[if_neg zf] at e ⊢;cases e;exact k u j a b g
theorem VN{K:Frag}{mg:Str->Option Value}{i mb:M Bool}{σ:St}{H:Hp}{Q:Bool->Hp->Prop}(h:tMT K mg md P (cB i mb) σ H Q):tOr (tMT K mg md P i) (tMT K mg md P mb) σ H Q:=by
 obtain⟨ρ,O,F,q,d,B,r,sl,e,k⟩:=h;obtain⟨c,y,n,e⟩:=Res.bind_ok e;refine⟨ρ,_,F,q,_,_,r,sl,n,λu j a b g=>?_⟩
 cases c with
 |true =>
  rw[if_pos rfl] at e ⊢;cases e;exact k u j a b g
 |false =>
  rw[if_neg zf] at e ⊢;exact⟨ρ,_,j,a,_,_,g,sl.step b,e,λt x f m l=>k t x f (b.trans m) l⟩
theorem oR{a:Expr}{b:Pos}{m:M Bool}(h:TsE X md P a m):TwE X md P (.BoolOp .And [a] b) m:=QT h
theorem iJ{a:Expr}{b:Pos}{m:M Bool}(h:TsE X md P a m):TwE X md P (.BoolOp .Or [a] b) m:=QV h
theorem gw{a b:Expr}{rest:List Expr}{c:Pos}{d mb:M Bool}(f:TsE X md P a d)(hb:TwE X md P (.BoolOp .And (b::rest) c) mb):TwE X md P (.BoolOp .And (a::b::rest) c) (cD d mb):=(QW f hb).imp λ_ _ _=>VM
theorem gD{a b:Expr}{rest:List Expr}{c:Pos}{d mb:M Bool}(f:TsE X md P a d)(hb:TwE X md P (.BoolOp .Or (b::rest) c) mb):TwE X md P (.BoolOp .Or (a::b::rest) c) (cB d mb):=(QX f hb).imp λ_ _ _=>VN
theorem eY{e:Expr}{m:M Bool}(h:TwE X md P e m):TsE X md P e m:=PW.pt h
theorem jF{a:Expr}{b:Pos}{m:M Bool}(h:TsE X md P a m):TsE X md P (.UnaryOp .Not a b) (dw m):=(QZ h).imp λσ H Q q=>by
 obtain⟨ρ,O,F,g,d,j,r,sl,e,k⟩:=q;obtain⟨c,i,f,e⟩:=Res.bind_ok e;cases e;exact⟨ρ,_,F,g,_,_,r,sl,f,k⟩
def iu(b mb:M D):M D:=λρ O=>(b ρ O).bind λd a=>match d with
 | .bl true=>mb ρ a
 | .bl false=>.ok (.bl false) a
 | _=>.no
def Ih(b mb:M D):M D:=λρ O=>(b ρ O).bind λd a=>match d with
 | .bl true=>.ok (.bl true) a
 | .bl false=>mb ρ a
 | _=>.no
def VP(a:M D):M D:=λρ O=>(a ρ O).bind λd c=>match d with
 | .bl b=>.ok (.bl (!b)) c
 | _=>.no
theorem oU{a:Expr}{b:Pos}{op}{m:M D}(h:VE X md P a m):VE X md P (.BoolOp op [a] b) m:=Q3 h
theorem kJ{a b:Expr}{rest:List Expr}{f:Pos}{m mb:M D}(B:VE X md P a m)(hb:VE X md P (.BoolOp .And (b::rest) f) mb):VE X md P (.BoolOp .And (a::b::rest) f) (iu m mb):=(Q4 B hb).imp λσ H Q q=>by
 obtain⟨ρ,O,F,G,d,U,r,sl,e,k⟩:=q;obtain⟨x,T,E,e⟩:=Res.bind_ok e;refine⟨ρ,_,F,G,_,_,r,sl,E,λv J n g h l y=>?_⟩
 cases x with
 |bl c =>
  refine⟨c,Rp.unB y,?_⟩
  cases c with
  |true =>
   rw[if_pos rfl];exact⟨ρ,_,n,g,_,_,l,sl.step h,e,λt I L j C u i=>k t I L j (h.trans C) u i⟩
  |false =>
   rw[if_neg zf];cases e;exact k _ J n g h l Rp.bl
 | _=>cases e
def mIf(t:M Bool)(a b:M D):M D:=λρ O=>(t ρ O).bind λc d=>if c=true then a ρ d else b ρ d
theorem VR(G:gf R){c a b:Expr}{y:Pos}{C:M Bool}{E mb:M D}(J:TsE X md P c C)(i:PE X a (tM X.K X.mg md P R E))(hb:PE X b (tM X.K X.mg md P R mb)):PE X (.IfExp c a b y) (tM X.K X.mg md P R (mIf C E mb)):=(GD J i hb).imp λσ H Q q=>by
 obtain⟨ρ,O,F,T,d,W,r,sl,e,k⟩:=q;obtain⟨x,U,L,e⟩:=Res.bind_ok e;refine⟨ρ,_,F,T,_,_,r,sl,L,λY I j h B=>?_⟩
 cases x with
 |true =>
  rw[if_pos rfl] at e ⊢;exact⟨ρ,_,I,j,_,_,B,sl.step h,e,λl t u g n m f=>k l t u g (h.trans n) m (G _ _ _ _ _ _ _ (λa i=>h.dm a i) f)⟩
 |false =>
  rw[if_neg zf] at e ⊢;exact⟨ρ,_,I,j,_,_,B,sl.step h,e,λl t u g n m f=>k l t u g (h.trans n) m (G _ _ _ _ _ _ _ (λa i=>h.dm a i) f)⟩
theorem kO{c a b:Expr}{d:Pos}{f:M Bool}{g mb:M D}(h:TsE X md P c f)(i:VE X md P a g)(hb:VE X md P b mb):VE X md P (.IfExp c a b d) (mIf f g mb):=VR cA h i hb
end
section
variable {K:Frag}{mg:Str->Option Value}{md:List Md}{P:Pt}{R:RR}{ρ:aA}{σ:St}{H F H' F':Hp}{as as':List Addr}{O O':aq}
theorem SlO.set{i:Nat}{m:Md}{v:V}{d:D}(s:SlO K md P ρ σ H F as)(n:md[i]?=some m)(y:m≠.s)(hv:iI P K H F as m v d)
  (B:∀(a:Addr) (ds:List D) (j:Nat) (es:List D),m=.o->v=.ref a->d=.lst ds->i≠j->md[j]?=some .o->ρ[j]?=some (some (.lst es))->σ[j]?≠some (some (.ref a))):SlO K md P (ρ.set i (some d)) (σ.set i (some v)) H F as:=by
 have f:i<md.length:=(zq.mp n).1;refine⟨by rw[jf];exact s.len,by rw[jf];exact s.len',s.pd,λj G J u r=>?_,λj k a ds es h1 h2 h3 h4 l g=>?_,λx I=>?_⟩
 ·by_cases h:i=j
  ·subst h;rw[n] at u;cases u;rw[zM (by rw[s.len'];exact f)] at r;cases r;exact⟨v,zM (by rw[s.len];exact f),hv⟩
  ·rw[zv h] at r;rw[zv h];exact s.sl j G J u r
 ·by_cases c:i=j
  ·by_cases b:i=k
   ·rw[<-c,<-b]
   ·exfalso
    subst c;rw[n] at h1;cases h1;rw[zM (by rw[s.len'];exact f)] at h3;rw[zM (by rw[s.len];exact f)] at l;rw[zv b] at h4 g;cases h3;cases l;exact B a ds k es rfl rfl rfl b h2 h4 g
  ·by_cases b:i=k
   ·exfalso
    subst b;rw[n] at h2;cases h2;rw[zM (by rw[s.len'];exact f)] at h4;rw[zM (by rw[s.len];exact f)] at g;rw[zv c] at h3 l;cases h4;cases g;exact B a es j ds rfl rfl rfl c h1 h3 l
   ·rw[zv c] at h3 l;rw[zv b] at h4 g;exact s.inj j k a ds es h1 h2 h3 h4 l g
 ·obtain⟨t,E,C⟩:=s.pin x I
  have q:i≠x.1:=λz=>by
   rw[<-z,n] at t;exact y (zD t)
  exact⟨t,by rw[zv q];exact E,by rw[zv q];exact C⟩
theorem SlO.setV{i:Nat}{v:V}{d:D}(s:SlO K md P ρ σ H F as)(a:md[i]?=some .v)(hv:Rp K F as v d):SlO K md P (ρ.set i (some d)) (σ.set i (some v)) H F as :=
 s.set a (by decide) hv λ_ _ _ _ z=>nomatch z
theorem SlO.setN{i:Nat}{v:V}{d:D}(s:SlO K md P ρ σ H F as)(b:md[i]?=some .o)(a:jD d=true)(hv:Rp K F as v d):SlO K md P (ρ.set i (some d)) (σ.set i (some v)) H F as :=
 s.set b (by decide) (.inl ⟨a,hv⟩) λ_ _ _ _ _ _ z=>by subst z;cases a
theorem SlO.setO{i:Nat}{v:V}{d:D}{c:Hp}(s:SlO K md P ρ σ c F as)(g:Gr c F as H' F' as')(h:md[i]?=some .o)(hv:Ow K (λa=>c a=none) H' F' as' v d):SlO K md P (ρ.set i (some d)) (σ.set i (some v)) H' F' as':=by
 have s':=s.step g
 rcases hv with⟨q,hv⟩ | ⟨a,m,E,rfl,rfl,C,B,y,k,x⟩
 ·exact s'.setN h q hv
 ·refine s'.set h (by decide) (.inr ⟨a,m,E,rfl,rfl,C,B,y,λp=>s.pd a p k,x⟩) λb J j L _ u hd I r t n=>?_
  cases u;obtain⟨v,h1,h2⟩:=s.sl j .o _ r t;rw[n] at h1;cases h1
  rcases h2 with⟨h2,_⟩ | ⟨Q,G,_,l,_,f,_⟩
  ·cases h2
  ·cases l;rw[k] at f;cases f
end
section
variable {X:Cx}{md:List Md}{P:Pt}{R:RR}
def bc:MS:=λρ O=>.nx ρ O
def aC(a b:MS):MS:=λρ O=>match a ρ O with
 | .nx ρ' O'=>b ρ' O'
 |r=>r
theorem bZ:VSs X md P R [] bc:=Q8.imp λD σ H q=>by
 obtain⟨ρ,O,F,a,r,s,k⟩:=q;exact k σ H F a GrS.refl r s
theorem jG{K:Frag}{mg:Str->Option Value}{D:Ends}{H F q r:Hp}{n l:List Addr}(g:GrS P H F n q r l){f:Fl}(k:kE K mg md P R D H F n f):kE K mg md P R D q r l f:=by
 cases f with
 |nx j m=>exact λa h i b c=>k a h i b (g.trans c)
 |bk j m=>exact λa h i b c=>k a h i b (g.trans c)
 |ct j m=>exact λa h i b c=>k a h i b (g.trans c)
 |rt d m=>exact λa h i b c=>k a h i b (g.trans c)
 |ex _ _=>exact k
 |no=>exact k
theorem aL{st:Stmt}{rest:List Stmt}{a b:MS}(h1:VS X md P R st a)(h2:VSs X md P R rest b):VSs X md P R (st::rest) (aC a b):=(Q9 h1 h2).imp λD σ H q=>by
 obtain⟨ρ,O,F,l,r,s,k⟩:=q;refine⟨ρ,O,F,l,r,s,?_⟩;unfold aC at k
 cases e:a ρ O with
 |nx c f =>
  rw[e] at k;dsimp only at k
  exact λn t m h g j i=>⟨c,f,m,h,j,i,jG g k⟩
 |bk c f=>rw[e] at k;exact k
 |ct c f=>rw[e] at k;exact k
 |rt d f=>rw[e] at k;exact k
 |ex x f=>rw[e] at k;exact k
 |no=>rw[e] at k;exact k
theorem aN{st:Stmt}{a:MS}(h1:VS X md P R st a):VSs X md P R [st] a:=Ra h1
def qT:MS:=λ_ _=>.no
theorem Ii{st:Stmt}:VS X md P R st qT:=(Ri (X:=X) (st:=st)).imp λD σ H q=>by
 obtain⟨ρ,O,F,a,r,s,k⟩:=q;exact False.elim k
def oV(m:M D):MS:=λρ O=>match m ρ O with
 | .ok _ O'=>.nx ρ O'
 | .ex x O'=>.ex x O'
 | .no=>.no
theorem Ij{e:Expr}{a:Pos}{m:M D}(h:SE X md P e m)(hs:swapsWith e none a.line X.env=pure false:=by rfl):VS X md P R (.Expr e a) (oV m):=(t7 h hs).imp λD σ H q=>by
 obtain⟨ρ,O,F,b,r,s,k⟩:=q;unfold oV at k
 cases e:m ρ O with
 |ok d c =>
  rw[e] at k;exact⟨ρ,_,F,b,_,_,r,s,e,λv H' F' as' g r' _=>k σ H' F' as' g.toS r' (s.step g)⟩
 |ex x c=>rw[e] at k;exact False.elim k
 |no=>rw[e] at k;exact False.elim k
def aO(m:M D):MS:=λρ O=>match m ρ O with
 | .ok d O'=>.rt d O'
 | .ex x O'=>.ex x O'
 | .no=>.no
theorem Ik(l:gf R){e:Expr}{b:Pos}{m:M D}(h:PE X e (tM X.K X.mg md P R m)):VS X md P R (.Return (some e) b) (aO m):=(wV h).imp λD σ H q=>by
 obtain⟨ρ,O,F,n,r,s,k⟩:=q;unfold aO at k
 cases e:m ρ O with
 |ok d t =>
  rw[e] at k;exact⟨ρ,_,F,n,_,_,r,s,e,λv u y c g f i=>k v u y c g.toS f (l _ _ _ _ _ _ _ (λa j p=>s.pd a p j) i)⟩
 |ex x t=>rw[e] at k;exact False.elim k
 |no=>rw[e] at k;exact False.elim k
theorem bG{e:Expr}{a:Pos}{m:M D}(h:VE X md P e m):VS X md P (rV X.K) (.Return (some e) a) (aO m):=Ik cA h
theorem gh{e:Expr}{a:Pos}{m:M D}(h:OE X md P e m):VS X md P (rO X.K) (.Return (some e) a) (aO m):=Ik du h
theorem oW(i:Nat){x:Str}{p c:Pos}(j:md[i]?=some .o:=by rfl)(hN:X.N[i]?=some x:=by rfl)(h:Vis X.env.scope x:=by first | exact Or.inl rfl | exact Or.inr (Or.inl rfl) | exact Or.inr (Or.inr rfl))
  (hd:(x == ("__debug__":Str))=false:=by decide) (f:(x == ("__classdict__":Str))=false:=by decide):VS X md P (rO X.K) (.Return (some (.Name x p)) c) (aO (aa i)):=(wV (lM (i:=i) hN h hd f)).imp λD σ H q=>by
 obtain⟨ρ,O,F,C,r,s,k⟩:=q;unfold aO at k
 cases e:aa i ρ O with
 |ok d E =>
  rw[e] at k;obtain⟨b,rfl⟩:=qP e;obtain⟨v,h1,h2⟩:=s.sl i .o d j b;refine⟨v,h1,k v H F C GrS.refl r ?_⟩
  rcases h2 with h2 | ⟨a,g,B,b,u,t,y,n,m,l⟩
  ·exact .inl h2
  ·exact .inr ⟨a,g,B,b,u,t,y,n,m,l⟩
 |ex x E=>rw[e] at k;exact False.elim k
 |no=>rw[e] at k;exact False.elim k
def aX(t:M Bool)(a b:MS):MS:=λρ O=>match t ρ O with
 | .ok c O'=>if c=true then a ρ O' else b ρ O'
 | .ex x O'=>.ex x O'
 | .no=>.no
theorem bN{c:Expr}{a b:List Stmt}{h:Pos}{t:M Bool}{j mb:MS}(m:TsE X md P c t)(n:VSs X md P R a j)(hb:VSs X md P R b mb):VS X md P R (.If c a b h) (aX t j mb):=(Rg m n hb).imp λD σ H q=>by
 obtain⟨ρ,O,F,u,r,s,k⟩:=q;unfold aX at k
 cases e:t ρ O with
 |ok c f =>
  rw[e] at k;refine⟨ρ,_,F,u,_,_,r,s,e,λy l d g i=>?_⟩;dsimp only at k
  cases c with
  |true =>
   rw[if_pos rfl] at k ⊢;exact⟨ρ,f,l,d,i,s.step g,jG g.toS k⟩
  |false =>
   rw[if_neg zf] at k ⊢;exact⟨ρ,f,l,d,i,s.step g,jG g.toS k⟩
 |ex x f=>rw[e] at k;exact False.elim k
 |no=>rw[e] at k;exact False.elim k
def aK(i:Nat)(m:M D):MS:=λρ O=>match m ρ O with
 | .ok d O'=>.nx (ρ.set i (some d)) O'
 | .ex x O'=>.ex x O'
 | .no=>.no
theorem Il{K:Frag}{mg:Str->Option Value}{i:Nat}{m:M D}{t:TE}(h:md[i]?=some .v)(f:∀σ H Q,tM K mg md P (rV K) m σ H Q->t σ H Q){D:Ends}{σ:St}{H:Hp}(q:tMS K mg md P R (aK i m) D σ H):t8 t (qF i) D σ H:=by
 obtain⟨ρ,O,F,j,r,s,k⟩:=q;unfold aK at k
 cases e:m ρ O with
 |ok d l =>
  rw[e] at k;exact f _ _ _ ⟨ρ,_,F,j,_,_,r,s,e,λv n u a g b c=>k _ n u a g.toS b ((s.step g).setV h c)⟩
 |ex x l=>rw[e] at k;exact False.elim k
 |no=>rw[e] at k;exact False.elim k
theorem V0{K:Frag}{mg:Str->Option Value}{i:Nat}{m:M D}{t:TE}(h:md[i]?=some .o)(f:∀σ H Q,tM K mg md P (rO K) m σ H Q->t σ H Q){D:Ends}{σ:St}{H:Hp}(q:tMS K mg md P R (aK i m) D σ H):t8 t (qF i) D σ H:=by
 obtain⟨ρ,O,F,j,r,s,k⟩:=q;unfold aK at k
 cases e:m ρ O with
 |ok d l =>
  rw[e] at k;exact f _ _ _ ⟨ρ,_,F,j,_,_,r,s,e,λv n u a g b c=>k _ n u a g.toS b (s.setO g h c)⟩
 |ex x l=>rw[e] at k;exact False.elim k
 |no=>rw[e] at k;exact False.elim k
theorem bB{i:Nat}{x:Str}{e:Expr}{a pos':Pos}{m:M D}(hN:X.N.Nodup)(f:X.N[i]?=some x)(b:Loc X.env.scope x)(h:VE X md P e m)(d:md[i]?=some .v:=by rfl)(c:swapsWith e (some (.Name x pos')) a.line X.env=pure false:=by rfl)
  (g:X.fn x=true\/X.env.scope.names.lookup x=some .local:=by first | exact .inl rfl | exact .inr rfl | assumption):VS X md P R (.Assign [.Name x pos'] e a) (aK i m):=(GF (i:=i) hN f b h c g).imp λD σ H q=>Il d (λ_ _ _ z=>z) q
theorem jH{i:Nat}{x:Str}{e:Expr}{a pos':Pos}{m:M D}(hN:X.N.Nodup)(f:X.N[i]?=some x)(b:Loc X.env.scope x)(h:OE X md P e m)(d:md[i]?=some .o:=by rfl)(c:swapsWith e (some (.Name x pos')) a.line X.env=pure false:=by rfl)
  (g:X.fn x=true\/X.env.scope.names.lookup x=some .local:=by first | exact .inl rfl | exact .inr rfl | assumption):VS X md P R (.Assign [.Name x pos'] e a) (aK i m):=(GF (i:=i) hN f b h c g).imp λD σ H q=>V0 d (λ_ _ _ z=>z) q
abbrev MG:=D->aA->Option aA
def tMG(K:Frag)(mg:Str->Option Value)(md:List Md)(P:Pt)(g:MG):TG:=λv σ H Q=>∃ρ O F c d b,RlO K mg O H F c/\SlO K md P ρ σ H F c/\Rp K F c v d/\g d ρ=some b/\∀a,SlO K md P b a H F c->Q a H
def V1(K:Frag)(mg:Str->Option Value)(md:List Md)(P:Pt)(g:List D->aA->Option aA):TGs:=λf σ H Q=>∃ρ O F c d b,RlO K mg O H F c/\SlO K md P ρ σ H F c/\Rps K F c f d/\g d ρ=some b/\∀a,SlO K md P b a H F c->Q a H
def VG(X:Cx)(md:List Md)(P:Pt)(a:Expr)(g:MG):Prop:=PG X a (tMG X.K X.mg md P g)
def VGs(X:Cx)(md:List Md)(P:Pt)(a:List Expr)(g:List D->aA->Option aA):Prop:=PGs X a (V1 X.K X.mg md P g)
theorem PG.imp{e:Expr}{t t':TG}(h:PG X e t)(k:∀v σ H Q,t' v σ H Q->t v σ H Q):PG X e t':=λpins s σ H v u Q I r q=>h pins s σ H v u Q I r (k v σ H Q q)
theorem PGs.imp{e:List Expr}{t t':TGs}(h:PGs X e t)(k:∀v σ H Q,t' v σ H Q->t v σ H Q):PGs X e t':=λpins s σ H v u Q I r q=>h pins s σ H v u Q I r (k v σ H Q q)
def mgN(i:Nat):MG:=λd ρ=>some (ρ.set i (some d))
theorem dg{i:Nat}{x:Str}{a:Pos}(hN:X.N.Nodup)(g:X.N[i]?=some x)(b:Loc X.env.scope x)(f:md[i]?=some .v:=by rfl)(h:X.fn x=true\/X.env.scope.names.lookup x=some .local:=by first | exact .inl rfl | exact .inr rfl | assumption):VG X md P (.Name x a) (mgN i):=
 (Rj (i:=i) hN g b h).imp λv σ H Q q=>by
  obtain⟨ρ,O,F,l,d,j,r,s,c,e,k⟩:=q;cases e;exact k _ (s.setV f c)
def iw:List D->aA->Option aA:=λa ρ=>match a with
 | []=>some ρ
 | _=>none
def cX(g:MG)(r:List D->aA->Option aA):List D->aA->Option aA:=λa ρ=>match a with
 |d::a=>(g d ρ).bind λb=>r a b
 | []=>none
theorem qU:VGs X md P [] iw:=Rn.imp λv σ H Q q=>by
 obtain⟨ρ,O,F,d,b,c,r,s,a,e,k⟩:=q
 cases b with
 |nil=>cases e;exact⟨a.un0,k _ s⟩
 |cons _ _=>cases e
theorem iy{e:Expr}{es:List Expr}{g:MG}{r:List D->aA->Option aA}(h1:VG X md P e g)(h2:VGs X md P es r)(hs:(assignEach (e::es) X.env).map (·.2)=assign e X.env::(assignEach es X.env).map (·.2):=by rfl):VGs X md P (e::es) (cX g r):=
 (Ro h1 h2 hs).imp λv σ H Q q=>by
  obtain⟨ρ,O,F,f,a,b,c,s,l,e,k⟩:=q
  cases a with
  |nil=>cases e
  |cons d a =>
   obtain⟨x,i,rfl,j,m⟩:=l.un;unfold cX at e;dsimp only at e
   cases e1:g d ρ with
   |none=>rw[e1] at e;cases e
   |some ρ1 =>
    rw[e1] at e;exact⟨x,i,rfl,ρ,O,F,f,d,ρ1,c,s,j,e1,λn h=>⟨ρ1,O,F,f,a,b,c,h,m,e,k⟩⟩
def gG(n:Nat)(r:List D->aA->Option aA):MG:=λd ρ=>match d with
 | .tup ds=>if ds.length=n then r ds ρ else none
 | _=>none
theorem qW{es:List Expr}{c:Pos}{k:Nat}{r:List D->aA->Option aA}(n:Nat)(t:X.calm=true)(h:VGs X md P es r)(l:(assignEach es X.env).length=n:=by rfl)(f:(assignEach es X.env).findIdx? (·.1)=none:=by rfl):VG X md P (.Tuple es k c) (gG n r):=
 (Rr t h l f).imp λv σ H Q q=>by
  obtain⟨ρ,O,F,u,d,b,g,s,j,e,k⟩:=q
  cases d with
  |tup ds =>
   obtain⟨a,i,rfl,h1,h2⟩:=j.unT;unfold gG at e;dsimp only at e;split at e
   ·rename_i m;exact⟨a,i,rfl,Same.seqT g.fh h1,by rw[h2.length];exact m,ρ,O,F,u,ds,b,g,s,h2,e,k⟩
   ·cases e
  | _=>cases e
def V2(m:M D)(g:MG):MS:=λρ O=>match m ρ O with
 | .ok d O'=>match g d ρ with
  |some a=>.nx a O'
  |none=>.no
 | .ex x O'=>.ex x O'
 | .no=>.no
end
structure m6(K:Frag)(mg:Str->Option Value)(P:Pt)(J:It)(ds:List D)(H F:Hp)(as:List Addr):Prop where
 turn:∀(i:Nat) (d:D) (H2 F2:Hp) (as2:List Addr),GrS P H F as H2 F2 as2->(∃O,RlO K mg O H2 F2 as2)->ds[i]?=some d->J.go i H2/\∀x H3,J.yld i H2 x H3->∃F3,Gr H2 F2 as2 H3 F3 as2/\(∀O,RlO K mg O H2 F2 as2->RlO K mg O H3 F3 as2)/\Rp K F3 as2 x d
 stop:∀(H2 F2:Hp) (as2:List Addr),GrS P H F as H2 F2 as2->(∃O,RlO K mg O H2 F2 as2)->J.stop ds.length H2
structure Im(K:Frag)(mg:Str->Option Value)(J:It)(ds:List D)(H F:Hp)(as:List Addr):Prop where
 turn:∀(i:Nat) (d:D) (H2 F2:Hp) (as2:List Addr),Gr H F as H2 F2 as2->(∃O,RlO K mg O H2 F2 as2)->ds[i]?=some d->J.go i H2/\∀x H3,J.yld i H2 x H3->∃F3,Gr H2 F2 as2 H3 F3 as2/\(∀O,RlO K mg O H2 F2 as2->RlO K mg O H3 F3 as2)/\Rp K F3 as2 x d
 stop:∀(H2 F2:Hp) (as2:List Addr),Gr H F as H2 F2 as2->(∃O,RlO K mg O H2 F2 as2)->J.stop ds.length H2
theorem m6.e{K:Frag}{mg:Str->Option Value}{P:Pt}{J:It}{ds:List D}{H F:Hp}{f:List Addr}(h:m6 K mg P J ds H F f):Im K mg J ds H F f:=⟨λi d b c a g=>h.turn i d b c a g.toS,λb c a g=>h.stop b c a g.toS⟩
def Io(K:Frag)(mg:Str->Option Value)(md:List Md)(P:Pt)(m:M (List D)):TI:=λσ H Q=>∃ρ O F c f g,RlO K mg O H F c/\SlO K md P ρ σ H F c/\m ρ O=.ok f g /\
 ∀J b d a,Gr H F c b d a->RlO K mg g b d a->Im K mg J f b d a->Q J b
def VIc(X:Cx)(md:List Md)(P:Pt)(a iter:Expr)(m:M (List D)):Prop:=PI X a iter (Io X.K X.mg md P m)
def tMI(K:Frag)(mg:Str->Option Value)(md:List Md)(P:Pt)(m:M (List D)):TI:=λσ H Q=>∃ρ O F c f g,RlO K mg O H F c/\SlO K md P ρ σ H F c/\m ρ O=.ok f g /\
 ∀J b d a,Gr H F c b d a->RlO K mg g b d a->m6 K mg P J f b d a->Q J b
def VI(X:Cx)(md:List Md)(P:Pt)(a iter:Expr)(m:M (List D)):Prop:=PI X a iter (tMI X.K X.mg md P m)
section
variable {X:Cx}{md:List Md}{P:Pt}{R:RR}
theorem PI.imp{a e:Expr}{t t':TI}(h:PI X a e t)(k:∀σ H Q,t' σ H Q->t σ H Q):PI X a e t':=λpins s σ H Q I q=>h pins s σ H Q I (k σ H Q q)
theorem ur{b e:Expr}{m:M (List D)}(h:VI X md P b e m):VIc X md P b e m:=h.imp λσ H Q q=>by
 obtain⟨ρ,O,F,i,f,j,r,s,e,k⟩:=q;exact⟨ρ,O,F,i,f,j,r,s,e,λJ l n a g c d=>k J l n a g c d.e⟩
def bO(g:MG)(b:MS):List D->MS
 | [],ρ,O=>.nx ρ O
 |d::ds,ρ,O=>match g d ρ with
  |none=>.no
  |some a=>match b a O with
   | .nx ρ2 O2=>bO g b ds ρ2 O2
   | .ct ρ2 O2=>bO g b ds ρ2 O2
   | .bk ρ2 O2=>.nx ρ2 O2
   |r=>r
def cY(m:M (List D))(g:MG)(b:MS):MS:=λρ O=>match m ρ O with
 | .ok ds O'=>bO g b ds ρ O'
 | .ex x O'=>.ex x O'
 | .no=>.no
theorem V3{K:Frag}{mg:Str->Option Value}{m:M (List D)}{g:MG}{b:MS}{D:Ends}{σ:St}{H:Hp}(q:tMS K mg md P R (cY m g b) D σ H):GP (tMI K mg md P m) (tMG K mg md P g) (tMS K mg md P R b) D σ H:=by
 obtain⟨ρ,O,F,as,r,s,k⟩:=q;unfold cY at k
 cases e:m ρ O with
 |ex x B=>rw[e] at k;exact False.elim k
 |no=>rw[e] at k;exact False.elim k
 |ok ds O1 =>
  rw[e] at k;dsimp only at k;refine⟨ρ,_,F,as,_,_,r,s,e,λJ H1 Z E g1 r1 hJ=>?_⟩;have k1:=jG (R:=R) g1.toS k;refine⟨λi m U I=>m=ds.length - i/\i<=ds.length/\∃u B L c,GrS P H1 Z E I L c/\RlO K mg B I L c/\SlO K md P u U I L c/\kE K mg md P R D I L c (bO g b (ds.drop i) u B),⟨ds.length,by simp,Nat.zero_le _,ρ,O1,Z,E,GrS.refl,r1,s.step g1,by rw[List.drop_zero];exact k1⟩,?_⟩;rintro i n U I ⟨rfl,hi,u,B,L,c,g',r',s',k'⟩
  by_cases W:i<ds.length
  ·have hd:=zx W;obtain⟨go,yl⟩:=hJ.turn i _ I L c g' ⟨B,r'⟩ hd;rw[List.drop_eq_getElem_cons W] at k';refine .inr ⟨go,λj t=>∃h G l a,GrS P H1 Z E t l a/\RlO K mg G t l a/\SlO K md P h j t l a/\kE K mg md P R D t l a (bO g b (ds.drop (i+1)) h G),λj t h2=>⟨ds.length - (i+1),by omega,rfl,W,h2⟩,λx H3 y=>?_⟩;obtain⟨F3,Y,r3,hx⟩:=yl x H3 y;have r3':=r3 B r';unfold bO at k'
   cases eg:g ds[i] u with
   |none=>rw[eg] at k';exact False.elim k'
   |some ρ1 =>
    rw[eg] at k';dsimp only at k';refine⟨u,B,F3,c,ds[i],ρ1,r3',s'.step Y,hx,eg,λσ4 s4=>?_⟩;refine⟨ρ1,B,F3,c,r3',s4,?_⟩;have g4:GrS P H1 Z E H3 F3 c:=g'.trans Y.toS
    have keep:=λ{f}=>jG (K:=K) (mg:=mg) (md:=md) (R:=R) (D:=D) (f:=f) (Y.toS (P:=P))
    cases eb:b ρ1 B with
    |nx h G =>
     rw[eb] at k'
     exact λj t l a C T Q=>⟨h,G,l,a,g4.trans C,T,Q,jG C (keep k')⟩
    |ct h G =>
     rw[eb] at k'
     exact λj t l a C T Q=>⟨h,G,l,a,g4.trans C,T,Q,jG C (keep k')⟩
    |bk h G =>
     rw[eb] at k'
     exact λj t l a C T Q=>k' j t l a (Y.toS.trans C) T Q
    |rt d G =>
     rw[eb] at k'
     exact λv t l a C T Q=>k' v t l a (Y.toS.trans C) T Q
    |ex _ _=>rw[eb] at k';exact False.elim k'
    |no=>rw[eb] at k';exact False.elim k'
  ·have hi':i=ds.length:=by omega
   subst hi';refine .inl ⟨hJ.stop I L c g' ⟨B,r'⟩,?_⟩;rw[List.drop_length] at k';exact k' U I L c GrS.refl r' s'
theorem gH{a iter:Expr}{body:List Stmt}{c:Pos}{m:M (List D)}{g:MG}{b:MS}(j:X.calm=true)(h:VI X md P a iter m)(i:VG X md P a g)(hb:VSs X md P R body b)(f:PassesOwn (model X.prog X.w) X.A X.env X.xe:=by exact PassesOwn.never)
  (d:∀x,foldedSetIterable iter X.env x=pure x:=by intro _;rfl):VS X md P R (.For a iter body [] c) (cY m g b):=(RJ f j h i hb d).imp λ_ _ _ q=>V3 q
def eU(t:M Bool)(b:MS):Nat->MS
 | 0,_,_=>.no
 |n+1,ρ,O=>match t ρ O with
  | .ok true O1=>match b ρ O1 with
   | .nx ρ2 O2=>eU t b n ρ2 O2
   | .ct ρ2 O2=>eU t b n ρ2 O2
   | .bk ρ2 O2=>.nx ρ2 O2
   |r=>r
  | .ok false O1=>.nx ρ O1
  | .ex x O'=>.ex x O'
  | .no=>.no
def iK(n:Nat)(t:M Bool)(b:MS):MS:=eU t b n
theorem V4{K:Frag}{mg:Str->Option Value}{n:Nat}{t:M Bool}{b:MS}{D:Ends}{σ:St}{H:Hp}(q:tMS K mg md P R (iK n t b) D σ H):GJ (tMT K mg md P t) (tMS K mg md P R b) D σ H:=by
 refine⟨λn h E=>tMS K mg md P R (eU t b n) D h E,⟨n,q⟩,?_⟩;rintro m σ1 H1 ⟨ρ,O,F,as,r,s,k⟩
 cases m with
 |zero=>exact False.elim k
 |succ m =>
  unfold eU at k
  cases e:t ρ O with
  |ex x Q=>rw[e] at k;exact False.elim k
  |no=>rw[e] at k;exact False.elim k
  |ok c O1 =>
   rw[e] at k;refine⟨ρ,_,F,as,_,_,r,s,e,λL I C y G=>?_⟩
   cases c with
   |false =>
    rw[if_neg zf];exact k σ1 L I C y.toS G (s.step y)
   |true =>
    rw[if_pos rfl];refine⟨λh E=>tMS K mg md P R (eU t b m) D h E,λh E J=>⟨m,zY m,J⟩,ρ,O1,I,C,G,s.step y,?_⟩;dsimp only at k
    have keep:=λ{f}=>jG (K:=K) (mg:=mg) (md:=md) (R:=R) (D:=D) (f:=f) (y.toS (P:=P))
    cases eb:b ρ O1 with
    |nx ρ2 O2 =>
     rw[eb] at k
     exact λg B u a l j i=>⟨ρ2,O2,u,a,j,i,jG l (keep k)⟩
    |ct ρ2 O2 =>
     rw[eb] at k
     exact λg B u a l j i=>⟨ρ2,O2,u,a,j,i,jG l (keep k)⟩
    |bk ρ2 O2 =>
     rw[eb] at k
     exact λg B u a l j i=>k g B u a (y.toS.trans l) j i
    |rt d O2 =>
     rw[eb] at k
     exact λg B u a l j i=>k g B u a (y.toS.trans l) j i
    |ex _ _=>rw[eb] at k;exact False.elim k
    |no=>rw[eb] at k;exact False.elim k
theorem xU(n:Nat){c:Expr}{body:List Stmt}{a:Pos}{t:M Bool}{b:MS}(f:TsE X md P c t)(hb:VSs X md P R body b)(d:PassesOwn (model X.prog X.w) X.A X.env X.xe:=by exact PassesOwn.never):VS X md P R (.While c body [] a) (iK n t b):=
 (Rt d f hb).imp λ_ _ _ q=>V4 q
def dh(g:MG)(t:M Bool)(m:M D):List D->aA->aq->List D->Res (List D)
 | [],ρ,O,acc=>.ok acc O
 |d::ds,ρ,O,acc=>match g d ρ with
  |none=>.no
  |some a=>match t a O with
   | .ok true O1=>match m a O1 with
    | .ok y O2=>dh g t m ds a O2 (acc++[y])
    | .ex x O'=>.ex x O'
    | .no=>.no
   | .ok false O1=>dh g t m ds a O1 acc
   | .ex x O'=>.ex x O'
   | .no=>.no
def lV(own:Nat)(cap:List Nat)(ρ:aA):aA:=List.replicate own none++cap.map λj=>(ρ[j]?).join
def eZ(m:M (List D))(own:Nat)(cap:List Nat)(g:MG)(t:M Bool)(e:M D):M D:=λρ O=>(m ρ O).bind λa d=>if a.length<=1000000 then(dh g t e a (lV own cap ρ) d []).bind λb c=>.ok (.lst b) c else .no
def iz:M Bool:=λ_ O=>.ok true O
def cMd(own:Nat)(cap:List Nat)(md:List Md):List Md:=List.replicate own .v++cap.map λj=>match md[j]? with
 |some .v=>.v
 | _=>.s
theorem V5{K:Frag}{ρ:aA}{σ:St}{H F:Hp}{t:List Addr}{own:List Str}{cap:List Nat}(s:SlO K md P ρ σ H F t)(u:∀j∈cap,j<md.length):SlO K (cMd own.length cap md) (Pt.all H) (lV own.length cap ρ) (compSt own cap σ) H F t:=by
 refine⟨by simp[compSt,cMd],by simp[lV,cMd],λa h=>h,λi m d c b=>?_,λi j a k B h1=>?_,λ_ z=>nomatch z⟩
 ·unfold lV at b;unfold cMd at c;unfold compSt
  by_cases f:i<own.length
  ·rw[zC (by simpa using f),List.getElem?_replicate_of_lt f] at b;cases b
  ·have hi':own.length<=i:=Nat.le_of_not_lt f;rw[zK (by simpa using hi'),List.length_replicate,zA] at b c;rw[zK (by simpa using hi'),ze,zA]
   cases q:cap[i - own.length]? with
   |none=>rw[q] at b;cases b
   |some j =>
    rw[q] at c b;simp only[Option.map_some,Option.some.injEq] at c b ⊢
    cases q2:ρ[j]? with
    |none=>rw[q2] at b;cases b
    |some o =>
     rw[q2] at b;have e2':o=some d:=b;subst e2';obtain⟨x,v,h1,h2,h3⟩:=s.get q2;rw[h1] at c;refine⟨v,by rw[h2];rfl,?_⟩
     cases x with
     |v=>dsimp only at c;subst c;exact h3
     |s =>
      dsimp only at c;subst c
      rcases h3 with h3 | ⟨a,l,k,c,b,g,r,y,n⟩
      ·exact .inl h3
      ·exact .inr ⟨a,l,k,c,b,g,r,(show H a≠none by rw[g];exact λz=>nomatch z),n⟩
     |o =>
      dsimp only at c;subst c
      rcases h3 with⟨_,h3⟩ | ⟨a,l,k,c,b,g,C,r,y,n⟩
      ·exact .inl h3
      ·exact .inr ⟨a,l,k,c,b,g,r,(show H a≠none by rw[g];exact λz=>nomatch z),n⟩
 ·exfalso
  unfold cMd at h1
  by_cases f:i<own.length
  ·rw[zC (by simpa using f),List.getElem?_replicate_of_lt f] at h1;cases h1
  ·have hi':own.length<=i:=Nat.le_of_not_lt f;rw[zK (by simpa using hi'),List.length_replicate,zA] at h1
   cases q:cap[i - own.length]? with
   |none=>rw[q] at h1;cases h1
   |some j =>
    rw[q] at h1;simp only[Option.map_some,Option.some.injEq] at h1
    split at h1<;>cases h1
end
section
variable {X:Cx}{md:List Md}{P:Pt}{R:RR}
def xM(K:Frag)(mg:Str->Option Value)(md:List Md)(R:RR)(m:M D):TE:=λσ H Q=>∃P,tM K mg md P R m σ H Q
def xMT(K:Frag)(mg:Str->Option Value)(md:List Md)(m:M Bool):TT:=λσ H Q=>∃P,tMT K mg md P m σ H Q
def xMG(K:Frag)(mg:Str->Option Value)(md:List Md)(g:MG):TG:=λv σ H Q=>∃P,tMG K mg md P g v σ H Q
theorem xm{e:Expr}{m:M D}(h:∀P,PE X e (tM X.K X.mg md P R m)):PE X e (xM X.K X.mg md R m):=λpins s σ H Q I ⟨P,q⟩=>h P pins s σ H Q I q
theorem xmg{e:Expr}{g:MG}(h:∀P,VG X md P e g):PG X e (xMG X.K X.mg md g):=λpins s σ H v u Q I r ⟨P,q⟩=>h P pins s σ H v u Q I r q
theorem xmt{e:List Expr}{m:M Bool}(h:∀P,lQ X e (tMT X.K X.mg md P m)):lQ X e (xMT X.K X.mg md m):=λpins s σ H Q I ⟨P,q⟩=>h P pins s σ H Q I q
def VIf(X:Cx)(md:List Md)(P:Pt)(e:List Expr)(m:M Bool):Prop:=lQ X e (tMT X.K X.mg md P m)
theorem qX:VIf X md P [] iz:=λpins s σ H Q I q=>by
 obtain⟨ρ,O,F,a,d,b,r,s,e,k⟩:=q;cases e;exact U5 pins _ σ H Q I (k H F a Gr.refl r)
theorem Ip{c:Expr}{m:M Bool}(h:TsE X md P c m):VIf X md P [c] m:=U6 h
theorem Ir{K:Frag}{mg:Str->Option Value}{m:M (List D)}{own:List Str}{cap:List Nat}{g:MG}{t:M Bool}{e:M D}(hcap:∀j∈cap,j<md.length){σ:St}{H:Hp}{Q:VK}(q:tM K mg md P (rO K) (eZ m own.length cap g t e) σ H Q):
  xK (Io K mg md P m) own cap (xMG K mg (cMd own.length cap md) g) (xMT K mg (cMd own.length cap md) t) (xM K mg (cMd own.length cap md) (rV K) e) σ H Q:=by
 obtain⟨ρ,O,F,as,d,OZ,r,s,G,k⟩:=q;obtain⟨l,O1,e1,G⟩:=Res.bind_ok G;split at G
 ·rename_i hz;obtain⟨yf,O2,e2,G⟩:=Res.bind_ok G;cases G;refine⟨ρ,_,F,as,_,_,r,s,e1,λJ H1 F1 L g1 r1 hJ=>?_⟩;have sb:=V5 (own:=own) (s.step g1) hcap
  refine⟨λi n W Z U=>n=l.length - i/\i<=l.length/\∃f C u a b,Gr H1 F1 L U u a/\RlO K mg C U u a/\SlO K (cMd own.length cap md) (Pt.all H1) f Z U u a/\Rps K u a W b/\b.length<=i /\
   dh g t e (l.drop i) f C b=.ok yf OZ,⟨l.length,by simp,Nat.zero_le _,lV own.length cap ρ,O1,F1,L,[],Gr.refl,r1,sb,Rps.nil,zc _,by rw[List.drop_zero];exact e2⟩,?_⟩
  rintro i n W Z U ⟨rfl,hi,f,C,u,a,b,g',r',s',hy,hl,ec⟩
  by_cases I:i<l.length
  ·obtain⟨go,yl⟩:=hJ.turn i _ U u a g' ⟨C,r'⟩ (zx I)
   refine .inr ⟨go,?_,λW Y H2=>∃ρ2 O3 F2 B h,Gr H1 F1 L H2 F2 B/\RlO K mg O3 H2 F2 B/\SlO K (cMd own.length cap md) (Pt.all H1) ρ2 Y H2 F2 B/\Rps K F2 B W h/\h.length<=i+1 /\
    dh g t e (l.drop (i+1)) ρ2 O3 h=.ok yf OZ,λys2 Y H2 h2=>⟨l.length - (i+1),by omega,rfl,I,h2⟩,λx H3 y=>?_⟩
   ·rw[hy.length]
    have:=g8 hz
    omega
   obtain⟨F3,g3,r3,hx⟩:=yl x H3 y;have r3':=r3 C r';have g13:=g'.trans g3;rw[List.drop_eq_getElem_cons I] at ec;unfold dh at ec
   cases eg:g l[i] f with
   |none=>rw[eg] at ec;cases ec
   |some ρ1 =>
    rw[eg] at ec;dsimp only at ec;refine⟨_,f,C,F3,a,l[i],ρ1,r3',s'.step g3,hx,eg,λσ4 s4=>?_⟩
    cases et:t ρ1 C with
    |ex _ _=>rw[et] at ec;cases ec
    |no=>rw[et] at ec;cases ec
    |ok c O4 =>
     rw[et] at ec;refine⟨_,ρ1,C,F3,a,c,O4,r3',s4,et,λH5 F5 as5 E r5=>?_⟩
     cases c with
     |false =>
      rw[if_neg zf];exact⟨ρ1,O4,F5,as5,b,g13.trans E,r5,s4.step E,(hy.gr g3).gr E,by omega,ec⟩
     |true =>
      rw[if_pos rfl];dsimp only at ec
      cases em:e ρ1 O4 with
      |ex _ _=>rw[em] at ec;cases ec
      |no=>rw[em] at ec;cases ec
      |ok yd O6 =>
       rw[em] at ec;refine⟨_,ρ1,O4,F5,as5,yd,O6,r5,s4.step E,em,λvy H7 F7 as7 g7 r7 hvy=>?_⟩;exact⟨ρ1,O6,F7,as7,b++[yd],(g13.trans E).trans g7,r7,(s4.step E).step g7,(((hy.gr g3).gr E).gr g7).snoc hvy,by rw[zu];show b.length+1<=i+1;omega,ec⟩
  ·have hi':i=l.length:=by omega
   subst hi';rw[List.drop_length] at ec;cases ec;refine .inl ⟨hJ.stop U u a g' ⟨_,r'⟩,?_,λp T=>?_⟩
   ·rw[hy.length];exact zG hl (g8 hz)
   ·have hF:u p=none:=by
     cases q:u p with
     |none=>rfl
     |some o=>rw[r'.fh p o q] at T;cases T
    exact k _ _ u a ((g1.trans g').trans (Gr.lay T)) (r'.lay T) (.inr ⟨p,W,yf,rfl,rfl,cg,hF,λz=>r'.all z T,(g1.trans g').dm p T,hy⟩)
 ·cases G
variable {tg iter elt:Expr}{ifs:List Expr}{scope:Scope}{pos:Pos}{mi:M (List D)}{g:MG}{t:M Bool}{e:M D}
theorem oX(a:Scope)(b own:List Str)(cap:List Nat)(n:X.calm=true)(k:VIc X md P tg iter mi)
  (l:∀C s H ex P,VG (cN X scope C (cu b own cap) s H ex) (cMd own.length cap md) P tg g) (h:∀C s H ex P,VIf (cN X scope C (cu b own cap) s H ex) (cMd own.length cap md) P ifs t)
  (m:∀C s H ex P,VE (cN X scope C (cu b own cap) s H ex) (cMd own.length cap md) P elt e)
  (c:∀j∈cap,j<md.length:=by decide) (d:X.env.scope=a:=by rfl) (f:X.N=b:=by rfl) (ok:oM a b scope own cap=true:=by decide +kernel) (i:∀x,foldedSetIterable iter X.env x=pure x:=by intro _;rfl):
  OE X md P (.ListComp elt [⟨tg,iter,ifs,0⟩] scope pos) (eZ mi own.length cap g t e):=
 (Va a b own cap n k (λC s H ex=>xmg (l C s H ex)) (λC s H ex=>xmt (h C s H ex)) (λC s H ex=>xm (m C s H ex)) d f ok i).imp λ_ _ _ q=>Ir c q
theorem V6{i:Nat}{x:Str}{pos' c:Pos}(f:Scope)(h own:List Str)(cap:List Nat)(hN:X.N.Nodup)(U:X.N[i]?=some x)(hl:Loc X.env.scope x)(hc:X.calm=true)(hi:VIc X md P tg iter mi)
  (hg:∀C s H ex P,VG (cN X scope C (cu h own cap) s H ex) (cMd own.length cap md) P tg g) (W:∀C s H ex P,VIf (cN X scope C (cu h own cap) s H ex) (cMd own.length cap md) P ifs t)
  (he:∀C s H ex P,VE (cN X scope C (cu h own cap) s H ex) (cMd own.length cap md) P elt e)
  (Z:md[i]?=some .v:=by rfl) (m:∀j∈cap,j<md.length:=by decide) (E:swapsWith (.ListComp elt [⟨tg,iter,ifs,0⟩] scope pos) (some (.Name x pos')) c.line X.env=pure true:=by rfl)
  (hf:X.fn x=true\/X.env.scope.names.lookup x=some .local:=by first | exact .inl rfl | exact .inr rfl | assumption)
  (G:X.env.scope=f:=by rfl) (I:X.N=h:=by rfl) (ok:oM f h scope own cap=true:=by decide +kernel) (Y:∀x,foldedSetIterable iter X.env x=pure x:=by intro _;rfl):
  VS X md P R (.Assign [.Name x pos'] (.ListComp elt [⟨tg,iter,ifs,0⟩] scope pos) c) (aK i (eZ mi own.length cap g t e)):=
 (Vb (i:=i) f h own cap hN U hl hc hi (λC s H ex=>xmg (hg C s H ex)) (λC s H ex=>xmt (W C s H ex)) (λC s H ex=>xm (he C s H ex)) E hf G I ok Y).imp λD σ H q =>
  Il Z (λσ H Q z=>Ir m (by
   obtain⟨ρ,O,F,as,d,O',r,s,e,k⟩:=z;refine⟨ρ,_,F,as,_,_,r,s,e,λv T n l g L y=>?_⟩
   rcases y with⟨_,y⟩ | ⟨a,J,ds,rfl,rfl,e3,B,e5,e6,e7⟩
   ·exact k v T n l g L y
   ·have ff:Same n (upd n a (.lst J)):=λb u q=>by rw[aQ (cI q B)];exact q
    exact k _ T (upd n a (.lst J)) l (g.frz e6 B) (L.frz e3 B e5 rfl) (Rp.mkL (.inl (.inl cg)) (Rps.mono ff (λ_ _ z=>z) _ e7)))) q
end
def vSp(K:Frag)(mg:Str->Option Value)(pm:List Md)(R:RR)(c:List D->aq->Res D):Sp:=λvs H Q _ =>
 ∃i O F g d j,RlO K mg O H F g/\c7 K H F g pm vs i/\c i O=.ok d j/\∀v f h b,Gr H F g f h b->RlO K mg j f h b->R (λa=>H a=none) f h b v d->Q v f
def bI(n:Nat)(b:MS):List D->aq->Res D:=λa O=>match b (a.map some++List.replicate (n - a.length) none) O with
 | .rt d O'=>.ok d O'
 | .nx _ O'=>.ok .non O'
 | .ex x O'=>.ex x O'
 | _=>.no
theorem c7.len{K:Frag}{H F:Hp}{a:List Addr}:∀{ms:List Md}{vs:List V}{ds:List D},c7 K H F a ms vs ds->vs.length=ms.length/\ds.length=ms.length
 | [],[],[],_=>⟨rfl,rfl⟩
 |m::ms,v::vs,d::ds,h=>by
  have:=c7.len h.2
  simp[this.1,this.2]
 | [],[],_::_,h=>h.elim
 | [],_::_,[],h=>h.elim
 | [],_::_,_::_,h=>h.elim
 | _::_,[],[],h=>h.elim
 | _::_,[],_::_,h=>h.elim
 | _::_,_::_,[],h=>h.elim
theorem c7.get{K:Frag}{H F:Hp}{a:List Addr}:∀{ms:List Md}{vs:List V}{ds:List D}{i:Nat}{m:Md}{d:D},c7 K H F a ms vs ds->ms[i]?=some m->ds[i]?=some d->∃v,vs[i]?=some v/\rA K m (λ_=>True) H F a v d
 |m::ms,v::vs,d::ds,0,m',d',h,e1,e2=>by
  simp at e1 e2
  subst e1 e2;exact⟨v,rfl,h.1⟩
 |m::ms,v::vs,d::ds,i+1,m',d',h,e1,e2=>by
  obtain⟨b,h1,h2⟩:=c7.get (i:=i) (m:=m') (d:=d') h.2 (by simpa using e1) (by simpa using e2);exact⟨b,by simpa using h1,h2⟩
 | [],[],[],_,_,_,_,e1,_=>by simp at e1
 | [],[],_::_,_,_,_,h,_,_=>h.elim
 | [],_::_,[],_,_,_,h,_,_=>h.elim
 | [],_::_,_::_,_,_,_,h,_,_=>h.elim
 | _::_,[],[],_,_,_,h,_,_=>h.elim
 | _::_,[],_::_,_,_,_,h,_,_=>h.elim
 | _::_,_::_,[],_,_,_,h,_,_=>h.elim
theorem Iu{K:Frag}{H F:Hp}{r:List Addr}{N:List Str}{pm k:List Md}{vs:List V}{ds:List D}(h:c7 K H F r pm vs ds)(C:(pm++k).length=N.length)(l:∀m∈pm,m≠.o):
  SlO K (pm++k) (Pt.all H) (ds.map some++List.replicate (N.length - ds.length) none) (start N vs) H F r:=by
 obtain⟨h1,h2⟩:=h.len;rw[zu] at C
 have G:vs.length<=N.length:=by omega
 have no:∀i a,(ds.map some++List.replicate (N.length - ds.length) none)[i]?=some (some a)->i<ds.length:=λi a e=>by
  by_cases f:i<ds.length
  ·exact f
  ·rw[zK (by simpa using f),List.getElem?_replicate] at e
   split at e<;>cases e
 refine⟨by unfold start;simp;omega,by simp;omega,λa z=>z,λi m d c b=>?_,λi j a n fs c b E=>?_,λ_ z=>nomatch z⟩
 ·have f:=no i d b;rw[zC (by simpa using f),zA] at b;rw[zC (by omega)] at c
  cases q:ds[i]? with
  |none=>rw[q] at b;cases b
  |some d' =>
   rw[q] at b;cases b;obtain⟨v,h3,h4⟩:=h.get c q;refine⟨v,?_,?_⟩
   ·unfold start;rw[zC (by simp;omega),zA,h3];rfl
   ·cases m with
    |v=>exact h4
    |s =>
     rcases h4 with h4 | ⟨a,B,n,y,x,g,u,t⟩
     ·exact .inl h4
     ·exact .inr ⟨a,B,n,y,x,g,u,(show H a≠none by rw[g];exact λz=>nomatch z),t⟩
    |o=>exact absurd rfl (l .o (zH c))
 ·have f:=no i _ E;rw[zC (by omega)] at c;exact absurd rfl (l .o (zH c))
section
variable {Pr:Program}{w:World}{K:Frag}{mg:Str->Option Value}{base:Heap}
theorem cJ{x:Str}{st:Stmt}{N ps:List Str}{k:Nat}(Df:Def K mg x st)(S:bH N ps (aY st))
  (hb:∀(kV G pm:Value) (an:Option Addr) (i ct:Value) (us:List Value),us.length=ps.length->bindArgs (PySem.W.fnOf x x (gY st) (eO st) (aY st) .none kV G pm an i ct) ⟨us,[]⟩=pure (ps.zip us))
  (pm I:List Md) {R:RR}{b:MS} (Z:gf R) (C:∀N H F l,R N H F l .non .non) (B:pm.length=ps.length:=by rfl) (X:(pm++I).length=N.length:=by rfl) (U:∀m∈pm,m≠.o:=by decide)
  (body:∀(f:Addr) (i:Value) (A:Around) (outer:List Env) (s:Shared) (H:Hp) (E:XK),bC k (A.deeper (envOfC x (aY st) s.heap.objs.size f i))->∀P,VSs ((iG CX0 Pr w K mg base N x (aY st) f i A outer s H E).nox) (pm++I) P R (eO st) b):
  Can Pr w K mg base x ps (k+1) (vSp K mg pm R (bI N.length b)):=by
 refine Df.can (k:=k) S hb (λJ H Q E h=>?_) (λf i A outer s H J Q E T h=>?_)
 ·obtain⟨t,O,F,l,d,O',r,a,_⟩:=h;rw[a.len.1,B]
 ·obtain⟨t,O,F,l,d,O',r,a,e,q⟩:=h;refine⟨_,body f i A outer s H E T (Pt.all H),?_⟩;refine⟨_,O,F,l,r,Iu a X U,?_⟩;unfold bI at e
  cases eb:b (t.map some++List.replicate (N.length - t.length) none) O with
  |rt d' O2 =>
   rw[eb] at e;cases e
   exact λv u y j g n L=>q v u y j g.gr n (Z _ _ _ _ _ _ _ (λc Y=>Classical.not_not.mp Y) L)
  |nx ρ O2 =>
   rw[eb] at e;cases e
   exact λσ' u y j g n _=>q _ u y j g.gr n (C _ _ _ _)
  |bk _ _=>rw[eb] at e;cases e
  |ct _ _=>rw[eb] at e;cases e
  |ex _ _=>rw[eb] at e;cases e
  |no=>rw[eb] at e;cases e
end
section
variable {X:Cx}{md:List Md}{P:Pt}{R:RR}{k:Nat}{x:Str}{ps:List Str}{p pos:Pos}{e:Expr}{es:List Expr}{pm:List Md}{c:List D->aq->Res D}{ma:M (List D)}
def aJ(c:List D->aq->Res D)(ma:M (List D)):M D:=λρ O=>(ma ρ O).bind λa b=>c a b
theorem Iv{K:Frag}{mg:Str->Option Value}(n:gf R){E:XK}{σ:St}{H:Hp}{Q:VK}(q:tM K mg md P R (aJ c ma) σ H Q):qL (vSp K mg pm R c) [] E (tMA K mg md P pm ma) σ H Q:=by
 obtain⟨ρ,O,F,B,d,G,r,s,e,k⟩:=q;obtain⟨y,C,u,e⟩:=Res.bind_ok e;refine⟨ρ,_,F,B,_,_,r,s,u,λT U J b g h l=>?_⟩;dsimp only;rw[zU];exact⟨y,C,J,b,d,G,h,l,e,λv I L f t i j=>k v I L f (g.trans t) i (n _ _ _ _ _ _ _ (λa m=>g.dm a m) j)⟩
theorem Iw(i:gf R)(C:Can X.prog X.w X.K X.mg X.base x ps k (vSp X.K X.mg pm R c))(d:bC k X.A)(h:AE X md P pm (e::es) ma)(f:Gl X x:=by rfl)(b:(x == ("__debug__":Str))=false:=by decide)
  (g:starEach (e::es) X.env=(false,eval e X.env)::starEach es X.env:=by exact cV rfl) (a:(backTo pos (starEach es X.env)).any (·.1)=false:=by exact dW rfl):PE X (.Call (.Name x p) (e::es) [] pos) (tM X.K X.mg md P R (aJ c ma)):=
 (Vc C d h f b g a).imp λ_ _ _ q=>Iv i q
theorem V7(g:gf R)(C:Can X.prog X.w X.K X.mg X.base x ps k (vSp X.K X.mg [] R c))(b:bC k X.A)(f:Gl X x:=by rfl)(a:(x == ("__debug__":Str))=false:=by decide):PE X (.Call (.Name x p) [] [] pos) (tM X.K X.mg md P R (aJ c au)):=
 (Vd C b f a).imp λσ H Q q=>by
  have:=Iv (pm:=[]) (E:=E0) g q
  obtain⟨ρ,O,F,i,d,j,r,s,h,k⟩:=this;cases h;exact k [] H F i Gr.refl r trivial
end
section
variable {K:Frag}{mg:Str->Option Value}{H F:Hp}{as:List Addr}{O:aq}{Q:VK}{d:D}{p:Addr}{xs:List V}{ds:List D}
theorem cQ{v:V}(r:RlO K mg O H F as)(k:∀f b c,Gr H F as b c as->RlO K mg O b c as->Ow K (λa=>H a=none) b c as f d->Q f b)(g:jD d=true)(hv:Rp K F as v d):Q v H:=k v H F Gr.refl r (.inl ⟨g,hv⟩)
theorem RlO.frF(r:RlO K mg O H F as)(a:H p=none):F p=none:=by
 cases q:F p with
 |none=>rfl
 |some o=>rw[r.fh p o q] at a;cases a
theorem oY(r:RlO K mg O H F as)(k:∀g c f,Gr H F as c f as->RlO K mg O c f as->Ow K (λa=>H a=none) c f as g (.lst ds)->Q g c)(b:H p=none)(hs:Rps K F as xs ds):Q (.ref p) (upd H p (.lst xs)):=
 k _ _ F (Gr.lay b) (r.lay b) (.inr ⟨p,xs,ds,rfl,rfl,cg,r.frF b,λz=>r.all z b,b,hs⟩)
theorem Iz(r:RlO K mg O H F as)(k:∀i f h,Gr H F as f h as->RlO K mg O f h as->Ow K (λa=>H a=none) f h as i (.tup ds)->Q i f)(c:H p=none)(hs:Rps K F as xs ds):Q (.ref p) (upd H p (.tup xs)):=by
 have g:=r.frF c
 have ff:Same F (upd F p (.tup xs)):=λb u q=>by rw[aQ (cI q g)];exact q
 exact k _ _ (upd F p (.tup xs)) ((Gr.lay c).frz c g) ((r.lay c).frz cg g (λz=>r.all z c) rfl) (.inl ⟨rfl,Rp.mkT (.inl cg) (Rps.mono ff (λ_ _ z=>z) _ hs)⟩)
end
section
variable {X:Cx}
def V8(K:Frag):R2:=λx y H Q=>∃l b c a,x=.ref l/\y=.ref b/\RdK K H l c/\RdK K H b a/\c.length+a.length<=sizeLine/\∀p,H p=none->Q (.ref p) (upd H p (.lst (c++a)))
theorem V9:OpR X (binaryOp .Add) (V8 X.K):=by
 intro pins s σ H x y v u Q I g f h;obtain⟨l,b,E,B,rfl,rfl,i,j,G,q⟩:=h;cases g;cases f;obtain⟨z,c,n,r,e⟩:=i.ok I;obtain⟨C,a,F,d,m⟩:=j.ok I;have J:=r.length;have t:=d.length;refine PySem.P.add_list e m ?_ (by rw[zy,zy];omega)
 have k:c.toArray++a.toArray=(c++a).toArray:=by simp
 rw[k];exact⟨.ref _,_,I.lnew (t':=s.toks) (r.append d) (by rw[zu];omega),rfl,q _ I.fresh⟩
def Wa(K:Frag):R2:=λx y H Q=>∃l k a,x=.ref l/\y=.int k/\RdK K H l a/\-(2 ^ 63)<=k/\k<2 ^ 63/\a.length * k.toNat<=sizeLine /\
 ∀p,H p=none->Q (.ref p) (upd H p (.lst (List.replicate k.toNat a).flatten))
theorem Wb:OpR X (binaryOp .Mult) (Wa X.K):=by
 intro pins s σ H x y v u Q I G E h;obtain⟨l,k,O,rfl,rfl,L,h1,h2,B,q⟩:=h;cases G;obtain⟨t,rfl⟩:=E;obtain⟨z,b,n,r,e⟩:=L.ok I;have J:=r.length
 have hlen:b.toArray.size * k.toNat<=sizeLine:=by rw[zy,<-J];exact B
 have g:¬b.toArray.size * k.toNat>(2 ^ 63 - 1) / 8:=by
  have:(sizeLine:Nat)<=(2 ^ 63 - 1) / 8:=by decide
  omega
 have f:¬(!Builtin.List.listFitsIndex k)=true:=by
  rw[fitsIndex_both h1 h2];exact zf
 have c:¬Builtin.List.listTooLong (b.toArray.size * k.toNat)=true:=by
  rw[Hr hlen];exact zf
 have d:List.foldl (λj i=>j++i) #[] (List.replicate (if b.toArray.isEmpty=true then 0 else k.toNat) b.toArray)=(List.replicate k.toNat b).flatten.toArray:=by
  have f0:∀m:Nat,List.foldl (λj i=>j++i) #[] (List.replicate m b.toArray)=(List.replicate m b).flatten.toArray:=λm=>by
   have:=foldl_rep b m []
   rw[zI] at this;exact this
  rw[f0]
  cases b with
  |nil=>simp
  |cons a P=>rw[if_neg (by simp)]
 refine wpAny_binaryOp_repeat_ref (T:="list") (U:="int") (by decide) ⟨_,e,rfl⟩ (λC=>typeIs_int C k t) noFill_list_mul F.fills_int_mul F.slot_int_rmul repeat_list F.slot_int_index.lookup
  (call_meets F.slot_int_rmul (typeIs_int s k t) F.entry_int_rmul (F.args_int_rmul_2 _ _) (int___rmul___int_list k t l b.toArray n)
   ⟨e,rfl,⟨_,e,rfl⟩,call_meets F.slot_list_mul ⟨_,e,rfl⟩ F.entry_list_mul (F.args_list_mul_2 _ _) (AutoListH.list___mul___list_int_3 l b.toArray n k t f g c) ⟨e,?_⟩⟩)
 rw[d];exact⟨.ref _,_,I.lnew (t':=s.toks) (r.rep k.toNat) (by rw[len_rep,Nat.mul_comm];exact B),rfl,q _ I.fresh⟩
def aM:D->D->Option D
 | .int i,.int j=>some (.int (i+j))
 | .int i,.bl k=>some (.int (i+b2i k))
 | .str a,.str b=>if a.length+b.length<=1000000 then some (.str (a++b)) else none
 | .lst a,.lst b=>if a.length+b.length<=1000000 then some (.lst (a++b)) else none
 | .tup a,.tup b=>if a.length+b.length<=1000000/\a≠[] then some (.tup (a++b)) else none
 | _,_=>none
instance (a:List D):Decidable (a≠[]):=match a with
 | []=>isFalse λh=>h rfl
 | _::_=>isTrue λh=>nomatch h
theorem cj:OpD X (binaryOp .Add) aM:=by
 intro pins s σ H x y v u Q I g f h;obtain⟨O,F,P,L,t,d,r,m,l,e,k⟩:=h
 cases L with
 |int i =>
  cases(m.rp rfl).unI
  cases t with
  |int j =>
   cases(l.rp rfl).unI;cases e;exact RQ pins s σ H _ _ v u Q I g f ⟨i,j,rfl,rfl,cQ r k rfl Rp.int⟩
  |bl j =>
   cases(l.rp rfl).unB;cases e;exact R1 pins s σ H _ _ v u Q I g f ⟨i,j,rfl,rfl,cQ r k rfl Rp.int⟩
  | _=>cases e
 |str a =>
  cases(m.rp rfl).unS
  cases t with
  |str b =>
   cases(l.rp rfl).unS;simp only[aM] at e;split at e
   ·rename_i c;cases e;refine Sq pins s σ H _ _ v u Q I g f ⟨S a,S b,rfl,rfl,by rw[eX,eX];exact g8 c,?_⟩;rw[Vh];exact cQ r k rfl Rp.str
   ·cases e
  | _=>cases e
 |lst a =>
  obtain⟨p,n,rfl,h1,h2⟩:=m.list r.fh
  cases t with
  |lst b =>
   obtain⟨C,B,rfl,h3,h4⟩:=l.list r.fh;simp only[aM] at e;split at e
   ·rename_i c;cases e;exact V9 pins s σ H _ _ v u Q I g f ⟨p,C,n,B,rfl,rfl,h1,h3,by rw[h2.length,h4.length];exact g8 c,λq E=>oY r k E (Rps.append h4 h2)⟩
   ·cases e
  | _=>cases e
 |tup a =>
  obtain⟨p,n,rfl,h1,h2⟩:=(m.rp rfl).unT
  cases t with
  |tup b =>
   obtain⟨C,B,rfl,h3,h4⟩:=(l.rp rfl).unT;simp only[aM] at e;split at e
   ·rename_i c;cases e
    have G:n≠[]:=λz=>c.2 (List.eq_nil_of_length_eq_zero (by rw[<-h2.length,z];rfl))
    refine T5 pins s σ H _ _ v u Q I g f ⟨p,C,n,B,rfl,rfl,Same.seqT r.fh h1,Same.seqT r.fh h3,G,by rw[h2.length,h4.length];exact g8 c.1,λz=>?_,λ_ q E=>Iz r k E (Rps.append h4 h2)⟩;have J:b=[]:=List.eq_nil_of_length_eq_zero (by rw[<-h4.length,z];rfl);subst J;rw[zU] at k;exact cQ r k rfl (m.rp rfl)
   ·cases e
  | _=>cases e
 | _=>cases e
def gI(C:Int->Int->Bool)(f:Int->Int->Int):D->D->Option D
 | .int i,.int j=>if C i j=true then some (.int (f i j)) else none
 | _,_=>none
theorem xV{f:Value->Value->Sem Value}{a:Int->Int->Prop}{g:Int->Int->Int}{C:Int->Int->Bool}(h:OpR X f (rI a λi j=>.int (g i j)))(n:∀i j,C i j=true->a i j):OpD X f (gI C g):=by
 intro pins s σ H x y v u Q I c b t;obtain⟨O,F,G,E,B,d,r,m,l,e,k⟩:=t
 cases E with
 |int i =>
  cases(m.rp rfl).unI
  cases B with
  |int j =>
   cases(l.rp rfl).unI;simp only[gI] at e;split at e
   ·rename_i q;cases e;exact h pins s σ H _ _ v u Q I c b ⟨i,j,rfl,rfl,n i j q,cQ r k rfl Rp.int⟩
   ·cases e
  | _=>cases e
 | _=>cases e
def m7:D->D->Option D:=gI (λ_ _=>true) λi j=>i - j
theorem xW:OpD X (binaryOp .Sub) m7:=by
 intro pins s σ H x y v u Q I b a g;obtain⟨O,F,m,l,h,d,r,f,c,e,k⟩:=g
 cases l with
 |int i =>
  cases(f.rp rfl).unI
  cases h with
  |int j =>
   cases(c.rp rfl).unI;cases e;exact RT pins s σ H _ _ v u Q I b a ⟨i,j,rfl,rfl,cQ r k rfl Rp.int⟩
  | _=>cases e
 | _=>cases e
def oZ(i:Int):Bool:=decide (-(2 ^ 64)<i)&&decide (i<2 ^ 64)
theorem xX{i:Int}(h:oZ i=true):-(2 ^ 64)<i/\i<2 ^ 64:=by
 unfold oZ at h;rw[zr,decide_eq_true_eq,decide_eq_true_eq] at h;exact h
def fc:D->D->Option D
 | .int i,.int j=>if(oZ i || oZ j)=true then some (.int (i * j)) else none
 | .str l,.int n=>if -1000000<n/\n<1000000/\l.length * n.toNat<=16777216 then some (.str (List.replicate n.toNat l).flatten) else none
 | .lst l,.int n=>if -1000000<n/\n<1000000/\l.length * n.toNat<=1000000 then some (.lst (List.replicate n.toNat l).flatten) else none
 | _,_=>none
theorem uv:OpD X (binaryOp .Mult) fc:=by
 intro pins s σ H x y v u Q I c b h;obtain⟨O,F,E,C,m,d,r,g,f,e,k⟩:=h
 cases C with
 |int i =>
  cases(g.rp rfl).unI
  cases m with
  |int j =>
   cases(f.rp rfl).unI;simp only[fc] at e;split at e
   ·rename_i a;cases e;refine RV pins s σ H _ _ v u Q I c b ⟨i,j,rfl,rfl,?_,cQ r k rfl Rp.int⟩;rw[Bool.or_eq_true] at a
    rcases a with z | z
    ·exact .inl (xX z)
    ·exact .inr (xX z)
   ·cases e
  | _=>cases e
 |str l =>
  cases(g.rp rfl).unS
  cases m with
  |int n =>
   cases(f.rp rfl).unI;simp only[fc] at e;split at e
   ·rename_i a;cases e;exact VB pins s σ H _ _ v u Q I c b ⟨l,n,rfl,rfl,a.1,a.2.1,a.2.2,cQ r k rfl Rp.str⟩
   ·cases e
  | _=>cases e
 |lst l =>
  obtain⟨p,t,rfl,h1,h2⟩:=g.list r.fh
  cases m with
  |int n =>
   cases(f.rp rfl).unI;simp only[fc] at e;split at e
   ·rename_i a;cases e;exact Wb pins s σ H _ _ v u Q I c b ⟨p,n,t,rfl,rfl,h1,by omega,by omega,by rw[h2.length];exact g8 a.2.2,λq B=>oY r k B (h2.rep _)⟩
   ·cases e
  | _=>cases e
 | _=>cases e
def bL:D->D->Option D:=gI (λ_ j=>decide (0<j)) λi j=>i % j
theorem d9:OpD X (binaryOp .Mod) bL:=xV RX λ_ _ h=>zV h
def gj:D->D->Option D:=gI (λ_ j=>decide (0<j)&&decide (j<1073741824)) λi j=>i / j
theorem qY:OpD X (binaryOp .FloorDiv) gj:=xV RW λi j h=>by
 rw[zr,decide_eq_true_eq,decide_eq_true_eq] at h;exact h
def jJ:D->D->Option D:=gI (λi j=>decide (0<=j)&&(decide (j<=1000000)&&oZ i)) λi j=>i ^ j.toNat
theorem xY:OpD X (binaryOp .Pow) jJ:=xV RZ λi j h=>by
 rw[zr,zr,decide_eq_true_eq,decide_eq_true_eq] at h
 have:=xX h.2.2
 exact⟨h.1,h.2.1,by omega⟩
def mUn(g:D->Option D)(m:M D):M D:=λρ O=>(m ρ O).bind λd a=>match g (bK a d) with
 |some y=>.ok y a
 |none=>.no
def lW:D->Option D
 | .int i=>some (.int (-i))
 | _=>none
theorem xZ{md:List Md}{P:Pt}{a:Expr}{b:Pos}{m:M D}(h:SE X md P a m):OE X md P (.UnaryOp .USub a b) (mUn lW m):=(RM R0 h).imp λσ H Q q=>by
 obtain⟨ρ,O,F,n,d,B,r,s,e,k⟩:=q;obtain⟨x,t,l,e⟩:=Res.bind_ok e;refine⟨ρ,_,F,n,_,_,r,s,l,λv u y c j f g=>?_⟩
 cases ed:bK t x with
 |int i =>
  rw[ed] at e;cases e
  have:=Sv.lk g f
  rw[ed] at this;exact⟨i,(this.rp rfl).unI,k _ u y c j f (.inl ⟨rfl,Rp.int⟩)⟩
 | _=>rw[ed] at e;cases e
def gCI(f:Int->Int->Bool):D->D->Option D
 | .int i,.int j=>some (.bl (f i j))
 | _,_=>none
theorem IK{f:Value->Value->Sem Value}{g:Int->Int->Bool}(h:OpR X f (rI0 λi j=>.bl (g i j))):OpD X f (gCI g):=by
 intro pins s σ H x y v u Q I b a m;obtain⟨O,F,t,q,n,d,r,l,c,e,k⟩:=m
 cases q with
 |int i =>
  cases(l.rp rfl).unI
  cases n with
  |int j =>
   cases(c.rp rfl).unI;cases e;exact h pins s σ H _ _ v u Q I b a ⟨i,j,rfl,rfl,cQ r k rfl Rp.bl⟩
  | _=>cases e
 | _=>cases e
def gLt:D->D->Option D:=gCI λi j=>decide (i<j)
def gGt:D->D->Option D:=gCI λi j=>decide (j<i)
def gGe:D->D->Option D:=gCI λi j=>decide (j<=i)
def gLe:D->D->Option D
 | .int i,.int j=>some (.bl (decide (i<=j)))
 | .str a,.str b=>some (.bl (!decide (b<a)))
 | _,_=>none
theorem IV:OpD X (compareOp .LtE) gLe:=by
 intro pins s σ H x y v u Q I f c m;obtain⟨O,F,q,n,l,d,r,h,g,e,k⟩:=m
 cases n with
 |int i =>
  cases(h.rp rfl).unI
  cases l with
  |int j =>
   cases(g.rp rfl).unI;cases e;exact R4 pins s σ H _ _ v u Q I f c ⟨i,j,rfl,rfl,cQ r k rfl Rp.bl⟩
  | _=>cases e
 |str a =>
  cases(h.rp rfl).unS
  cases l with
  |str b =>
   cases(g.rp rfl).unS;cases e;refine Vi pins s σ H _ _ v u Q I f c ⟨S a,S b,rfl,rfl,?_⟩;rw[iH,iH];exact cQ r k rfl Rp.bl
  | _=>cases e
 | _=>cases e
theorem qZ:OpD X (compareOp .Lt) gLt:=IK R3
theorem Wc:OpD X (compareOp .Gt) gGt:=IK R5
mutual
def toP:D->PyData
 | .non=>.none
 | .bl b=>.bool b
 | .int i=>.int i
 | .str l=>.str (S l)
 | .lst ds=>.list (lX ds)
 | .tup ds=>.tuple (lX ds)
 | .dic _ _=>.none
 | .ob _=>.none
def lX:List D->List PyData
 | []=>[]
 |d::ds=>toP d::lX ds
end
mutual
def gJ:D->Bool
 | .lst ds=>m8 ds
 | .tup ds=>m8 ds
 | .dic _ _=>false
 | .ob _=>false
 | _=>true
def m8:List D->Bool
 | []=>true
 |d::ds=>gJ d&&m8 ds
end
section
variable {K:Frag}{F:Hp}{as:List Addr}
mutual
theorem Rp.rep:∀(d:D) {v:V},gJ d=true->Rp K F as v d->Rep K F v (toP d)
 | .non,v,_,h=>by rw[toP,Rep];exact h.unN
 | .bl b,v,_,h=>by rw[toP,Rep];exact h.unB
 | .int i,v,_,h=>by rw[toP,Rep];exact h.unI
 | .str x,v,_,h=>by rw[toP,Rep];exact h.unS
 | .lst ds,v,hp,h=>by
  obtain⟨a,c,h1,h2,h3⟩:=h.unL;rw[toP,Rep];rw[gJ] at hp;exact⟨a,c,h1,h2.sq,Rps.rep' ds hp h3⟩
 | .tup ds,v,hp,h=>by
  obtain⟨a,c,h1,h2,h3⟩:=h.unT;rw[toP,Rep];rw[gJ] at hp;exact⟨a,c,h1,h2,Rps.rep' ds hp h3⟩
 | .dic _ _,v,hp,h=>by rw[gJ] at hp;cases hp
 | .ob _,v,hp,h=>by rw[gJ] at hp;cases hp
theorem Rps.rep':∀(ds:List D) {xs:List V},m8 ds=true->Rps K F as xs ds->cT K F xs (lX ds)
 | [],xs,_,h=>by rw[h.un0,lX];exact cT.nil
 |d::ds,xs,hp,h=>by
  obtain⟨x,r,rfl,h2,h3⟩:=h.un;rw[m8,zr] at hp;rw[lX];exact cT.cons (Rp.rep d hp.1 h2) (Rps.rep' ds hp.2 h3)
end
theorem Lk.rep{H:Hp}{d:D}{v:V}(h:Lk K H F as v d)(fh:Same F H)(b:gJ d=true):Rep K H v (toP d):=by
 rcases h with h | ⟨a,c,f,rfl,rfl,h1,h2⟩
 ·exact Rep.mono fh _ (Rp.rep d b h)
 ·rw[gJ] at b;rw[toP,Rep];exact⟨a,c,rfl,.inl (.inl h1),cT.mono fh _ (Rps.rep' f b h2)⟩
end
def okE(d:D):Bool:=gJ d&&okD (toP d)
def jK(a b:D):Bool:=PyData.eqv (toP a) (toP b)
def gEq:D->D->Option D
 | .int i,.int j=>some (.bl (decide (i=j)))
 | .str a,.str b=>some (.bl (decide (a=b)))
 | .bl a,.bl b=>some (.bl (decide (a=b)))
 |a,b=>if(okE a&&okE b)=true then some (.bl (jK a b)) else none
def gNe:D->D->Option D
 | .int i,.int j=>some (.bl (!decide (i=j)))
 | .str a,.str b=>some (.bl (!decide (a=b)))
 | .bl a,.bl b=>some (.bl (!decide (a=b)))
 |a,b=>if(okE a&&okE b)=true then some (.bl (!jK a b)) else none
theorem IW(a b:List Nat):decide (V.str (S a)=V.str (S b))=decide (a=b):=by
 by_cases h:a=b
 ·subst h;simp
 ·rw[zd h,zd];intro z;exact h (m5 (V.str.inj z))
theorem Ja(a b:Int):decide (V.int a=V.int b)=decide (a=b):=by
 by_cases h:a=b
 ·subst h;simp
 ·rw[zd h,zd];intro z;exact h (V.int.inj z)
theorem Jb(a b:Bool):decide (V.bl a=V.bl b)=decide (a=b):=by
 cases a<;>cases b<;>rfl
theorem Wd{a b d:D}(h:gEq a b=some d):(∃i j,a=.int i/\b=.int j/\d=.bl (decide (i=j)))\/(∃i j,a=.str i/\b=.str j/\d=.bl (decide (i=j)))\/(∃i j,a=.bl i/\b=.bl j/\d=.bl (decide (i=j))) \/
  (okE a=true/\okE b=true/\d=.bl (jK a b)):=by
 unfold gEq at h;split at h
 ·cases h;exact .inl ⟨_,_,rfl,rfl,rfl⟩
 ·cases h;exact .inr (.inl ⟨_,_,rfl,rfl,rfl⟩)
 ·cases h;exact .inr (.inr (.inl ⟨_,_,rfl,rfl,rfl⟩))
 ·split at h
  ·rename_i c;rw[zr] at c;cases h;exact .inr (.inr (.inr ⟨c.1,c.2,rfl⟩))
  ·cases h
theorem We{a b d:D}(h:gNe a b=some d):(∃i j,a=.int i/\b=.int j/\d=.bl (!decide (i=j)))\/(∃i j,a=.str i/\b=.str j/\d=.bl (!decide (i=j)))\/(∃i j,a=.bl i/\b=.bl j/\d=.bl (!decide (i=j))) \/
  (okE a=true/\okE b=true/\d=.bl (!jK a b)):=by
 unfold gNe at h;split at h
 ·cases h;exact .inl ⟨_,_,rfl,rfl,rfl⟩
 ·cases h;exact .inr (.inl ⟨_,_,rfl,rfl,rfl⟩)
 ·cases h;exact .inr (.inr (.inl ⟨_,_,rfl,rfl,rfl⟩))
 ·split at h
  ·rename_i c;rw[zr] at c;cases h;exact .inr (.inr (.inr ⟨c.1,c.2,rfl⟩))
  ·cases h
theorem bw{k:Nat}(g:bC k X.A):OpD X (compareOp .Eq) gEq:=by
 intro pins s σ H x y v u Q I b a h;obtain⟨O,F,n,m,l,d,r,f,c,e,k⟩:=h
 rcases Wd e with⟨i,j,rfl,rfl,rfl⟩ | ⟨i,j,rfl,rfl,rfl⟩ | ⟨i,j,rfl,rfl,rfl⟩ | ⟨h1,h2,rfl⟩
 ·cases(f.rp rfl).unI;cases(c.rp rfl).unI;refine wZ pins s σ H _ _ v u Q I b a ⟨rfl,?_⟩;rw[Ja];exact cQ r k rfl Rp.bl
 ·cases(f.rp rfl).unS;cases(c.rp rfl).unS;refine wZ pins s σ H _ _ v u Q I b a ⟨rfl,?_⟩;rw[IW];exact cQ r k rfl Rp.bl
 ·cases(f.rp rfl).unB;cases(c.rp rfl).unB;refine wZ pins s σ H _ _ v u Q I b a ⟨rfl,?_⟩;rw[Jb];exact cQ r k rfl Rp.bl
 ·unfold okE at h1 h2;rw[zr] at h1 h2;exact Ve g pins s σ H _ _ v u Q I b a ⟨toP m,toP l,f.rep r.fh h1.1,c.rep r.fh h2.1,h1.2,h2.2,cQ r k rfl Rp.bl⟩
theorem m9{k:Nat}(g:bC k X.A):OpD X (compareOp .NotEq) gNe:=by
 intro pins s σ H x y v u Q I b a h;obtain⟨O,F,n,m,l,d,r,f,c,e,k⟩:=h
 rcases We e with⟨i,j,rfl,rfl,rfl⟩ | ⟨i,j,rfl,rfl,rfl⟩ | ⟨i,j,rfl,rfl,rfl⟩ | ⟨h1,h2,rfl⟩
 ·cases(f.rp rfl).unI;cases(c.rp rfl).unI;refine w5 pins s σ H _ _ v u Q I b a ⟨rfl,?_⟩;rw[Ja];exact cQ r k rfl Rp.bl
 ·cases(f.rp rfl).unS;cases(c.rp rfl).unS;refine w5 pins s σ H _ _ v u Q I b a ⟨rfl,?_⟩;rw[IW];exact cQ r k rfl Rp.bl
 ·cases(f.rp rfl).unB;cases(c.rp rfl).unB;refine w5 pins s σ H _ _ v u Q I b a ⟨rfl,?_⟩;rw[Jb];exact cQ r k rfl Rp.bl
 ·unfold okE at h1 h2;rw[zr] at h1 h2;exact Vf g pins s σ H _ _ v u Q I b a ⟨toP m,toP l,f.rep r.fh h1.1,c.rep r.fh h2.1,h1.2,h2.2,cQ r k rfl Rp.bl⟩
def toV:D->V
 | .bl b=>.bl b
 | .int i=>.int i
 | .str l=>.str (S l)
 | _=>.non
def kW:D->Bool
 | .non=>true
 | .bl _=>true
 | .int _=>true
 | .str _=>true
 | _=>false
def eqF(x y:D):Bool:=eqV (toV x) (toV y)
theorem Rp.flat{K:Frag}{F:Hp}{c:List Addr}{v:V}{d:D}(h:Rp K F c v d)(a:kW d=true):v=toV d/\jB v=true:=by
 cases d with
 |non=>rw[h.unN];exact⟨rfl,rfl⟩
 |bl b=>rw[h.unB];exact⟨rfl,rfl⟩
 |int b=>rw[h.unI];exact⟨rfl,rfl⟩
 |str b=>rw[h.unS];exact⟨rfl,rfl⟩
 | _=>cases a
theorem Rps.flat{K:Frag}{F:Hp}{g:List Addr}:∀{ds:List D}{xs:List V},Rps K F g xs ds->ds.all kW=true->xs=ds.map toV/\xs.all jB=true
 | [],xs,h,_=>by rw[h.un0];exact⟨rfl,rfl⟩
 |d::ds,xs,h,hf=>by
  obtain⟨x,r,rfl,h2,h3⟩:=h.un;rw[List.all_cons,zr] at hf;obtain⟨f,c⟩:=h2.flat hf.1;obtain⟨b,a⟩:=Rps.flat h3 hf.2;exact⟨by rw[zh,<-f,<-b],by rw[List.all_cons,c,a];rfl⟩
def gIn(a:Bool):D->D->Option D
 | .str [c],.str l=>some (.bl (a ^^ decide (c∈l)))
 |x,.lst ds=>if(kW x&&ds.all kW)=true then some (.bl (a ^^ ds.any λy=>eqF y x)) else none
 |x,.tup ds=>if(kW x&&ds.all kW)=true then some (.bl (a ^^ ds.any λy=>eqF y x)) else none
 | _,_=>none
theorem Wf{g:Bool}{a b d:D}(h:gIn g a b=some d):(∃c l,a=.str [c]/\b=.str l/\d=.bl (g ^^ decide (c∈l)))\/(∃ds,(b=.lst ds\/b=.tup ds)/\kW a=true/\ds.all kW=true/\d=.bl (g ^^ ds.any λy=>eqF y a)):=by
 unfold gIn at h;split at h
 ·cases h;exact .inl ⟨_,_,rfl,rfl,rfl⟩
 ·split at h
  ·rename_i f;rw[zr] at f;cases h;exact .inr ⟨_,.inl rfl,f.1,f.2,rfl⟩
  ·cases h
 ·split at h
  ·rename_i f;rw[zr] at f;cases h;exact .inr ⟨_,.inr rfl,f.1,f.2,rfl⟩
  ·cases h
 ·cases h
theorem Wg{x:D}{ds:List D}:inV (toV x) (ds.map toV)=ds.any λy=>eqF y x:=by
 unfold inV;rw[List.any_map];rfl
theorem Wh{K:Frag}{mg:Str->Option Value}{H F:Hp}{a:List Addr}{O:aq}{v:V}{b:D}{ds:List D}(r:RlO K mg O H F a)(c:Lk K H F a v b)(hb:b=.lst ds\/b=.tup ds):∃p xs,v=.ref p/\(SqL K H p xs\/SqT K H p xs)/\Rps K F a xs ds:=by
 rcases hb with rfl | rfl
 ·obtain⟨p,xs,e,h1,h2⟩:=c.list r.fh;exact⟨p,xs,e,.inl h1.sq,h2⟩
 ·obtain⟨p,xs,e,h1,h2⟩:=(c.rp rfl).unT;exact⟨p,xs,e,.inr (Same.seqT r.fh h1),h2⟩
theorem Wi{d:D}(h:kW d=true):jD d=true:=by cases d<;>first | rfl | cases h
theorem Jc:OpD X (compareOp .In) (gIn false):=by
 intro pins s σ H x y v u Q I b a j;obtain⟨O,F,G,C,B,d,r,g,f,e,k⟩:=j
 rcases Wf e with⟨c,l,rfl,rfl,rfl⟩ | ⟨E,i,h1,h2,rfl⟩
 ·cases(g.rp rfl).unS;cases(f.rp rfl).unS;refine Vj pins s σ H _ _ v u Q I b a ⟨c,l,rfl,rfl,?_⟩;rw[Bool.false_xor] at k;exact cQ r k rfl Rp.bl
 ·obtain⟨p,h,rfl,h3,h4⟩:=Wh r f i;obtain⟨t,q⟩:=(g.rp (Wi h1)).flat h1;obtain⟨n,m⟩:=h4.flat h2;refine Ui pins s σ H _ _ v u Q I b a ⟨p,h,rfl,h3,q,m,?_⟩;rw[if_neg zf,t,n,Wg];rw[Bool.false_xor] at k;exact cQ r k rfl Rp.bl
def gIx:D->D->Option D
 | .lst ds,.int i=>atI ds i
 | .tup ds,.int i=>atI ds i
 | .str l,.int i=>if l.length<=1000000 then(atI l i).map λc=>.str [c] else none
 | _,_=>none
theorem Rps.atI{K:Frag}{F:Hp}{a:List Addr}{xs:List V}{ds:List D}{i:Int}{d:D}(h:Rps K F a xs ds)(e:atI ds i=some d):∃v,L2.atI xs i=some v/\Rp K F a v d:=by
 unfold L2.atI at e ⊢;rw[h.length]
 cases q:ixN ds.length i with
 |none=>rw[q] at e;cases e
 |some j =>
  rw[q] at e;exact h.get' e
def rDv(K:Frag)(mg:Str->Option Value)(g:D->D->Option D):R2:=λx y H Q=>∃O F a f c d,RlO K mg O H F a/\Lk K H F a x f/\Lk K H F a y c/\g f c=some d/\∀b,Rp K F a b d->Q b H
theorem Wj:IxR X (rDv X.K X.mg gIx):=by
 intro value slice pins s σ H x y v u Q I g f C a;obtain⟨O,F,G,E,t,d,r,j,h,e,k⟩:=C
 cases E with
 |lst ds =>
  obtain⟨p,b,rfl,h1,h2⟩:=j.list r.fh
  cases t with
  |int i =>
   cases(h.rp rfl).unI;obtain⟨z,n,m⟩:=h2.atI e;exact Ub value slice pins s σ H _ _ v u Q I g f ⟨p,b,i,z,rfl,rfl,h1.sq,n,k z m⟩ a
  | _=>cases e
 |tup ds =>
  obtain⟨p,b,rfl,h1,h2⟩:=(j.rp rfl).unT
  cases t with
  |int i =>
   cases(h.rp rfl).unI;obtain⟨z,n,m⟩:=h2.atI e;exact Uc value slice pins s σ H _ _ v u Q I g f ⟨p,b,i,z,rfl,rfl,Same.seqT r.fh h1,n,k z m⟩ a
  | _=>cases e
 |str l =>
  cases(j.rp rfl).unS
  cases t with
  |int i =>
   cases(h.rp rfl).unI;simp only[gIx] at e;split at e
   ·rename_i B
    cases q:L2.atI l i with
    |none=>rw[q] at e;cases e
    |some c =>
     rw[q] at e;cases e;exact qM value slice pins s σ H _ _ v u Q I g f ⟨S l,i,c,rfl,rfl,by rw[eX];exact g8 B,by rw[iH];exact q,k _ Rp.str⟩ a
   ·cases e
  | _=>cases e
 | _=>cases e
theorem bu{md:List Md}{P:Pt}{a b:Expr}{g:Pos}{j mb:M D}(I:SE X md P a j)(hb:SE X md P b mb)(hs:xA b:=by intro _ _;rfl):VE X md P (.Subscript a b g) (ak gIx j mb):=(T7 Wj I hb hs).imp λσ H Q h=>by
 obtain⟨ρ,O,F,R,d,O',r,sl,e,k⟩:=h;obtain⟨x,Z,L,e⟩:=Res.bind_ok e;obtain⟨y,Y,J,e⟩:=Res.bind_ok e;split at e
 ·rename_i W G;cases e;refine⟨ρ,_,F,R,_,_,r,sl,L,λv H1 U i m t C=>?_⟩;refine⟨ρ,_,U,i,_,_,t,sl.step m,J,λu T n c l f E=>?_⟩;exact⟨_,n,c,_,_,_,f,Sv.lk (Sv.gr C l) f,Sv.lk E f,G,λq B=>k q T n c (m.trans l) f B⟩
 ·cases e
def tMO(K:Frag)(mg:Str->Option Value)(md:List Md)(P:Pt)(m:M (Option Int)):TO:=λσ H Q =>
 ∃ρ O F c b f,RlO K mg O H F c/\SlO K md P ρ σ H F c/\m ρ O=.ok b f/\∀d g a,Gr H F c d g a->RlO K mg f d g a->Q b d
def VO(X:Cx)(md:List Md)(P:Pt)(e:Option Expr)(m:M (Option Int)):Prop:=PO X e (tMO X.K X.mg md P m)
theorem PO.imp{e:Option Expr}{t t':TO}(h:PO X e t)(k:∀σ H Q,t' σ H Q->t σ H Q):PO X e t':=λpins s σ H Q I q=>h pins s σ H Q I (k σ H Q q)
def moN:M (Option Int):=λ_ O=>.ok none O
def moS(m:M D):M (Option Int):=λρ O=>(m ρ O).bind λd a=>match d with
 | .int i=>.ok (some i) a
 | _=>.no
theorem Wk{md:List Md}{P:Pt}:VO X md P none moN:=TQ.imp λσ H Q q=>by
 obtain⟨ρ,O,F,a,d,b,r,s,e,k⟩:=q;cases e;exact k H F a Gr.refl r
theorem fj{md:List Md}{P:Pt}{e:Expr}{m:M D}(h:VE X md P e m):VO X md P (some e) (moS m):=(TV h).imp λσ H Q q=>by
 obtain⟨ρ,O,F,j,d,u,r,s,e,k⟩:=q;obtain⟨x,t,g,e⟩:=Res.bind_ok e
 cases x with
 |int i =>
  cases e;exact⟨ρ,_,F,j,_,_,r,s,g,λv l n a f b c=>⟨i,Rp.unI c,k l n a f b⟩⟩
 | _=>cases e
def gSl(d:D)(lo a:Option Int):Option D:=match d with
 | .lst ds=>some (.lst (dU ds lo a))
 | .tup ds=>some (.tup (dU ds lo a))
 | .str l=>if l.length<=16777216 then some (.str (dU l lo a)) else none
 | _=>none
def Wl(K:Frag)(mg:Str->Option Value):V->Option Int->Option Int->Hp->VK->Prop:=λx lo i H Q=>∃O F b h d,RlO K mg O H F b/\Lk K H F b x h/\gSl h lo i=some d /\
 ∀g c f,Gr H F b c f b->RlO K mg O c f b->Ow K (λa=>H a=none) c f b g d->Q g c
theorem Rps.cut{K:Frag}{F:Hp}{b:List Addr}{xs:List V}{ds:List D}(h:Rps K F b xs ds)(lo a:Option Int):Rps K F b (j9 xs lo a) (dU ds lo a):=by
 unfold j9 dU;rw[h.length];exact(h.drop _).take _
theorem Wm:SlR X (Wl X.K X.mg):=by
 intro pins s σ H x v vl f lo a sl Q I g m j i h;obtain⟨O,F,y,u,d,r,b,e,k⟩:=h
 cases u with
 |lst ds =>
  obtain⟨p,c,rfl,h1,h2⟩:=b.list r.fh;cases e;exact Ug pins s σ H _ v vl f lo a sl Q I g m j i ⟨p,c,rfl,h1.sq,λq n=>oY r k n (h2.cut lo a)⟩
 |tup ds =>
  obtain⟨p,c,rfl,h1,h2⟩:=(b.rp rfl).unT;cases e;refine Vq X.K rfl pins s σ H _ v vl f lo a sl Q I g m j i ⟨p,c,rfl,Same.seqT r.fh h1,λz=>?_,λ_ q n=>Iz r k n (h2.cut lo a)⟩
  have:dU ds lo a=ds:=by
   unfold dU;rw[<-h2.length,z.1,z.2,List.drop_zero,Nat.sub_zero,h2.length,List.take_length]
  rw[this] at k;exact cQ r k rfl (b.rp rfl)
 |str l =>
  cases(b.rp rfl).unS;simp only[gSl] at e;split at e
  ·rename_i t;cases e;exact Vo pins s σ H _ v vl f lo a sl Q I g m j i ⟨l,rfl,zG t (Nat.le_of_eq sizeLine_eq.symm),cQ r k rfl Rp.str⟩
  ·cases e
 | _=>cases e
def mSl(m:M D)(lo b:M (Option Int)):M D:=λρ O=>(m ρ O).bind λd f=>(lo ρ f).bind λl c=>(b ρ c).bind λh a=>match gSl (bK a d) l h with
 |some y=>.ok y a
 |none=>.no
end
section
variable {X:Cx}{md:List Md}{P:Pt}{R:RR}
theorem kY{e:Expr}{lo u:Option Expr}{T g:Pos}{m:M D}{ml t:M (Option Int)}(he:SE X md P e m)(Y:VO X md P lo ml)(Z:VO X md P u t):OE X md P (.Subscript e (.Slice lo u none T) g) (mSl m ml t):=(TX Wm he Y Z).imp λσ H Q q=>by
 obtain⟨ρ,O,F,as,d,O',r,s,e,k⟩:=q;obtain⟨x,O1,e1,e⟩:=Res.bind_ok e;obtain⟨l,O2,e2,e⟩:=Res.bind_ok e;obtain⟨h,O3,e3,e⟩:=Res.bind_ok e;split at e
 ·rename_i y hg;cases e;refine⟨ρ,_,F,as,_,_,r,s,e1,λv H1 F1 j E J W=>?_⟩;refine⟨ρ,_,F1,j,_,_,J,s.step E,e2,λH2 F2 i C I=>?_⟩;have c:=E.trans C;refine⟨ρ,_,F2,i,_,_,I,s.step c,e3,λH3 F3 f B n=>?_⟩;have b:=c.trans B;exact⟨_,F3,f,_,_,n,Sv.lk (Sv.gr (Sv.gr W C) B) n,hg,λG H' F' g' L U=>k G H' F' f (b.trans g') L (du _ _ _ _ _ _ _ (λa ha=>b.dm a ha) U)⟩
 ·cases e
def Lks(K:Frag)(H F:Hp)(a:List Addr):List V->List D->Prop
 | [],[]=>True
 |v::vs,d::ds=>Lk K H F a v d/\Lks K H F a vs ds
 | _,_=>False
theorem c7.lks{K:Frag}{mg:Str->Option Value}{O:aq}{H F:Hp}{a:List Addr}(r:RlO K mg O H F a):∀{ms:List Md}{vs:List V}{ds:List D},c7 K H F a ms vs ds->Lks K H F a vs (ds.map (bK O))
 | [],[],[],_=>trivial
 |m::ms,v::vs,d::ds,h=>by
  refine⟨?_,c7.lks r h.2⟩
  have h1:Sv K H F a v d:=by
   cases m with
   |v=>exact .inl h.1
   |s=>exact h.1
   |o=>exact h.1
  exact h1.lk r
 | [],[],_::_,h=>h.elim
 | [],_::_,[],h=>h.elim
 | [],_::_,_::_,h=>h.elim
 | _::_,[],[],h=>h.elim
 | _::_,[],_::_,h=>h.elim
 | _::_,_::_,[],h=>h.elim
def rC(K:Frag)(mg:Str->Option Value)(g:List D->Option D):List V->Hp->VK->Prop:=λj H Q=>∃O F b i d,RlO K mg O H F b/\Lks K H F b j i/\g i=some d /\
 ∀h c f,Gr H F b c f b->RlO K mg O c f b->Ow K (λa=>H a=none) c f b h d->Q h c
abbrev q9(X:Cx)(f:Value)(g:List D->Option D):Prop:=j7 X f (rC X.K X.mg g)
def bx(g:List D->Option D)(b:M (List D)):M D:=λρ O=>(b ρ O).bind λc a=>match g (c.map (bK a)) with
 |some d=>.ok d a
 |none=>.no
theorem yc{K:Frag}{mg:Str->Option Value}{g:List D->Option D}{ms:List Md}{f:M (List D)}{σ:St}{H:Hp}{Q:VK}(q:tM K mg md P (rO K) (bx g f) σ H Q):tCB (rC K mg g) (tMA K mg md P ms f) σ H Q:=by
 obtain⟨ρ,O,F,B,d,T,r,s,e,k⟩:=q;obtain⟨J,L,x,e⟩:=Res.bind_ok e;split at e
 ·rename_i y n;cases e;refine⟨ρ,_,F,B,_,_,r,s,x,λI U E b h c m=>?_⟩;exact⟨_,E,b,_,_,c,m.lks c,n,λi C G u j l=>k i C G b (h.trans u) j (du _ _ _ _ _ _ _ (λa t=>h.dm a t) l)⟩
 ·cases e
theorem dG{x:Str}{p a:Pos}{e:Expr}{es:List Expr}{f:String}{g:List D->Option D}{ms:List Md}{d:M (List D)}(l:q9 X (.builtin f) g)(i:X.mg x=none)(m:AE X md P ms (e::es) d)(hv:bootBuiltins x=some (.builtin f):=by decide +kernel)(j:Gl X x:=by rfl)
  (h:x≠"__name__":=by decide) (c:(x == ("__debug__":Str))=false:=by decide) (k:starEach (e::es) X.env=(false,eval e X.env)::starEach es X.env:=by exact cV rfl) (b:(backTo a (starEach es X.env)).any (·.1)=false:=by exact dW rfl):
  OE X md P (.Call (.Name x p) (e::es) [] a) (bx g d):=(xu l j i hv m h c k b).imp λ_ _ _ q=>yc q
theorem rm{x:Str}{p a:Pos}{e:Expr}{es:List Expr}{T:String}{g:List D->Option D}{ms:List Md}{d:M (List D)}(k:q9 X (.type T) g)(h:X.mg x=none)(l:AE X md P ms (e::es) d)(hv:bootBuiltins x=some (.type T):=by decide +kernel)(i:Gl X x:=by rfl)
  (f:x≠"__name__":=by decide) (c:(x == ("__debug__":Str))=false:=by decide) (j:starEach (e::es) X.env=(false,eval e X.env)::starEach es X.env:=by exact cV rfl) (b:(backTo a (starEach es X.env)).any (·.1)=false:=by exact dW rfl):
  OE X md P (.Call (.Name x p) (e::es) [] a) (bx g d):=(Hi k i h hv l f c j b).imp λ_ _ _ q=>yc q
theorem Lks.one{K:Frag}{H F:Hp}{a:List Addr}{vs:List V}{d:D}(h:Lks K H F a vs [d]):∃v,vs=[v]/\Lk K H F a v d:=by
 cases vs with
 |nil=>exact h.elim
 |cons v vs =>
  cases vs with
  |nil=>exact⟨v,rfl,h.1⟩
  |cons u b=>exact h.2.elim
def bY:List D->Option D
 | [.str l]=>if l.length<=1000000 then some (.int l.length) else none
 | [.lst ds]=>some (.int ds.length)
 | [.tup ds]=>some (.int ds.length)
 | _=>none
theorem dH:q9 X (.builtin "len") bY:=by
 intro pins s σ H c f Q I g h;obtain⟨O,F,m,j,d,r,a,e,k⟩:=h;unfold bY at e;split at e
 ·rename_i l;obtain⟨v,rfl,b⟩:=a.one;split at e
  ·rename_i i;cases e;cases(b.rp rfl).unS;refine call_len pins s σ H _ f Q I g ⟨_,_,rfl,⟨by rw[eX];exact g8 i,rfl⟩,?_⟩;rw[eX];exact cQ r k rfl Rp.int
  ·cases e
 ·rename_i l;obtain⟨v,rfl,b⟩:=a.one;cases e;obtain⟨p,c,rfl,h1,h2⟩:=b.list r.fh;refine call_len pins s σ H _ f Q I g ⟨_,_,rfl,.inl ⟨c,h1.sq,rfl⟩,?_⟩;rw[h2.length];exact cQ r k rfl Rp.int
 ·rename_i l;obtain⟨v,rfl,b⟩:=a.one;cases e;obtain⟨p,c,rfl,h1,h2⟩:=(b.rp rfl).unT;refine call_len pins s σ H _ f Q I g ⟨_,_,rfl,.inr ⟨c,Same.seqT r.fh h1,rfl⟩,?_⟩;rw[h2.length];exact cQ r k rfl Rp.int
 ·cases e
def Wn:List D->Option D
 | [.int i,.int j]=>some (.int (if j>i then j else i))
 | _=>none
def Wo:List D->Option D
 | [.int i,.int j]=>some (.int (if j<i then j else i))
 | _=>none
def jL:List D->Option D
 | [.int i]=>some (.int i)
 | [.bl b]=>some (.int (if b then 1 else 0))
 | _=>none
theorem Jd:q9 X (.type "int") jL:=by
 intro pins s σ H g c Q I f h;obtain⟨O,F,j,i,d,r,a,e,k⟩:=h;unfold jL at e;split at e
 ·obtain⟨v,rfl,b⟩:=a.one;cases e;cases(b.rp rfl).unI;exact G7 pins s σ H _ c Q I f (.inl ⟨_,rfl,cQ r k rfl Rp.int⟩)
 ·obtain⟨v,rfl,b⟩:=a.one;cases e;cases(b.rp rfl).unB;exact G7 pins s σ H _ c Q I f (.inr ⟨_,rfl,cQ r k rfl Rp.int⟩)
 ·cases e
def kZ:List D->Option D
 | [.lst ds]=>some (.lst ds)
 | [.tup ds]=>some (.lst ds)
 | _=>none
theorem ye:q9 X (.type "list") kZ:=by
 intro pins s σ H b g Q I i h;obtain⟨O,F,m,j,d,r,a,e,k⟩:=h;unfold kZ at e;split at e
 ·obtain⟨v,rfl,c⟩:=a.one;cases e;obtain⟨p,b,rfl,h1,h2⟩:=c.list r.fh;exact Ho pins s σ H _ g Q I i ⟨p,b,rfl,.inl h1.sq,λl f=>oY r k f h2⟩
 ·obtain⟨v,rfl,c⟩:=a.one;cases e;obtain⟨p,b,rfl,h1,h2⟩:=(c.rp rfl).unT;exact Ho pins s σ H _ g Q I i ⟨p,b,rfl,.inr (Same.seqT r.fh h1),λl f=>oY r k f h2⟩
 ·cases e
def lq:List D->Option (List Int)
 | []=>some []
 | .int b::ds=>(lq ds).map (b :: ·)
 | _=>none
theorem Rps.ints{K:Frag}{F:Hp}{a:List Addr}:∀{ds:List D}{xs:List V}{bs:List Int},Rps K F a xs ds->lq ds=some bs->xs=bs.map V.int
 | [],xs,bs,h,e=>by cases e;rw[h.un0];rfl
 |d::ds,xs,bs,h,e=>by
  obtain⟨x,r,rfl,h2,h3⟩:=h.un
  cases d with
  |int b =>
   unfold lq at e
   cases q:lq ds with
   |none=>rw[q] at e;cases e
   |some cs =>
    rw[q] at e;cases e;rw[h2.unI,Rps.ints h3 q];rfl
  | _=>cases e
theorem dI:bootBuiltins "len" = some (.builtin "len"):=by decide +kernel
theorem Je:bootBuiltins "int" = some (.type "int"):=by decide +kernel
theorem uw:bootBuiltins "str" = some (.type "str"):=by decide +kernel
theorem ux:bootBuiltins "list" = some (.type "list"):=by decide +kernel
theorem Wq:bootBuiltins "tuple" = some (.type "tuple"):=by decide +kernel
def tyD:D->Option String
 | .non=>some "NoneType"
 | .bl _=>some "bool"
 | .int _=>some "int"
 | .str _=>some "str"
 | .lst _=>some "list"
 | .tup _=>some "tuple"
 | .dic _ _=>some "dict"
 | .ob _=>none
def fB(t n:String):Bool:=t == n || (t == "bool" && n == "int")
def gk(n:String)(m:M D):M D:=λρ O=>(m ρ O).bind λd a=>match tyD (bK a d) with
 |some t=>.ok (.bl (fB t n)) a
 |none=>.no
def yg:List String:=["str","int","bool","list","tuple","dict"]
theorem Wr(K:Frag):∀d t,tyD d=some t->∀n∈yg,PySem.W.kitOne K (.type t) (.type n)=some (fB t n):=by
 intro d t e n a;simp only[yg,zk,List.not_mem_nil,or_false] at a
 cases d<;>cases e<;>rcases a with rfl | rfl | rfl | rfl | rfl | rfl<;>first | exact Vt K _ | kernel_rfl
theorem Lk.ty{K:Frag}{H F:Hp}{f:List Addr}{v:V}{d:D}{t:String}(h:Lk K H F f v d)(fh:Same F H)(e:tyD d=some t):TyQ K H v t:=by
 cases d with
 |non=>cases e;rw[(h.rp rfl).unN];exact .non
 |bl b=>cases e;rw[(h.rp rfl).unB];exact .bl _
 |int b=>cases e;rw[(h.rp rfl).unI];exact .int _
 |str b=>cases e;rw[(h.rp rfl).unS];exact .str _
 |lst c=>cases e;obtain⟨p,a,rfl,h1,h2⟩:=h.list fh;exact .lst h1.sq
 |tup c=>cases e;obtain⟨p,a,rfl,h1,h2⟩:=(h.rp rfl).unT;exact .tup (Same.seqT fh h1)
 |dic i g=>cases e;obtain⟨p,a,rfl,h1,h2⟩:=(h.rp rfl).unD;exact .dK (fh _ _ h1)
 |ob n=>cases e
theorem o7(n:String){T:Str}{a:Expr}{p b c:Pos}{m:M D}(I:X.mg "isinstance" = none)(L:X.mg T=none)(h:SE X md P a m)(hb:bootBuiltins T=some (.type n):=by decide +kernel)(G:n∈yg:=by decide)(J:Gl X "isinstance":=by rfl)(l:Gl X T:=by rfl)
  (u:T≠"__name__":=by decide) (y:(T == ("__debug__":Str))=false:=by decide)
  (f:starEach [a,.Name T b] X.env=(false,eval a X.env)::starEach [.Name T b] X.env:=by exact cV rfl) (i:starEach [.Name T b] X.env=(false,eval (.Name T b) X.env)::starEach [] X.env:=by rfl) (j:(backTo c (starEach [.Name T b] X.env)).any (·.1)=false:=by exact dW rfl):
  OE X md P (.Call (.Name "isinstance" p) [a,.Name T b] [] c) (gk n m):=
 (xu (Vs X.K) J I (by decide +kernel) (gW h (gW (QL (v:=.ty n) l L hb rfl u y) jz i) f) (by decide) (by decide) f j).imp λσ H Q q=>by
  obtain⟨ρ,O,F,Y,d,O',r,s,e,k⟩:=q;obtain⟨x,O1,W,e⟩:=Res.bind_ok e;split at e
  ·rename_i t C;cases e;refine⟨ρ,_,F,Y,_,_,r,s,W,λv Z F1 B U g E=>?_⟩;exact⟨v,n,t,_,rfl,Lk.ty (Sv.lk E g) g.fh C,Wr _ _ t C n G,k _ Z F1 B U g (.inl ⟨rfl,Rp.bl⟩)⟩
  ·cases e
def uy(m:M D):M (List D):=λρ O=>(m ρ O).bind λd a=>match d with
 | .lst ds=>.ok ds a
 | _=>.no
def yh(m:M D):M (List D):=λρ O=>(m ρ O).bind λd a=>match d with
 | .tup ds=>.ok ds a
 | _=>.no
theorem Ws{K:Frag}{mg:Str->Option Value}{H F:Hp}{j:List Addr}{a:Addr}{xs:List V}{ds:List D}(hs:Rps K F j xs ds)(k:∀(c f:Hp) (b:List Addr),GrS P H F j c f b->(∃O,RlO K mg O c f b)->RdK K c a xs):m6 K mg P (Itl K a) ds H F j:=by
 refine⟨λi d c f b g r e=>?_,λc f b g r=>⟨xs,(k c f b g r).sq,by rw[hs.length];exact zc _⟩⟩;obtain⟨x,h1,h2⟩:=hs.get' e;have q:=k c f b g r;refine⟨⟨xs,x,q.sq,h1⟩,λy l h=>?_⟩;obtain⟨rfl,h⟩:=h
 have:=h xs q.sq
 rw[h1] at this;cases this;exact⟨f,Gr.refl,λ_ r=>r,h2.grS g⟩
end
section
variable {X:Cx}{pins:List (Addr×Obj)}{σ:St}{H:Hp}{s:Shared}
theorem Inv.turnL{ch:List Addr}{h':Heap}{t':Nat}(I:Inv X pins σ H s)(d:∀b∈ch,f9 X pins H b)(k:∀b o,b∉ch->s.heap.get? b=some o->h'.get? b=some o):Inv X pins σ H {s with heap:=h',toks:=t'}:=by
 have f:∀b u,H b=some u->b∉ch:=λb u e z=>by rw[(d b z).1] at e;cases e
 refine I.step (g':=s.gens) (d':=s.drawn) (ch:=ch) (λb i=>?_) (λb o _ _ a e _=>k b o a e) (λb o _ _ a e _=>⟨o.slots,k b o a e⟩) (λ_ _ _ _ n=>n)
  (λb o a e=>⟨o,k b o a e⟩) (λ_ _ e=>e) (λ_ _ _ e=>e) (λb C e=>⟨#[],by rw[e];simp⟩) (λm h=>?_) (λb u e=>?_) I.bare
 ·obtain⟨f0,x,E,t,l,j⟩:=d b i;exact⟨t,x,l,j⟩
 ·obtain⟨o,y,B,g,r⟩:=h;exact⟨o,y,B,k _ o (λz=>(d _ z).2.1 rfl) g,r⟩
 ·refine(I.hok b u e).stay (λc v a q=>k c v ?_ q) (λ_ q=>q) λ_ _ q=>q
  rcases a with z | z
  ·rw[z];exact f b u e
  ·exact f c _ z
theorem Inv.turnT{ch:List Addr}{h':Heap}{t':Nat}{T:Addr}{vs:List V}{us:List Value}(I:Inv X pins σ H s)(d:∀b∈ch,f9 X pins H b)(k:∀b o,b∉ch->s.heap.get? b=some o->h'.get? b=some o)
  (j:s.heap.objs.size<=T) (i:IsTup h' T us.toArray) (hv:aW vs us) (hz:vs.length<=sizeLine):Inv X pins σ (upd H T (.tup vs)) {s with heap:=h',toks:=t'}:=by
 have f:H T=none:=I.hok.fresh j
 have g:∀b u,H b=some u->b∉ch:=λb u e z=>by rw[(d b z).1] at e;cases e
 have ne:∀b o,s.heap.get? b=some o->b≠T:=λb o e z=>by
  subst z;exact absurd (zj e) (Nat.not_lt_of_le j)
 refine I.step (g':=s.gens) (d':=s.drawn) (ch:=ch) (λb h=>?_) (λb o _ _ a e _=>k b o a e) (λb o _ _ a e _=>⟨o.slots,k b o a e⟩) (λb o _ e n=>by rw[aQ (ne b o e)];exact n)
  (λb o a e=>⟨o,k b o a e⟩) (λb _ e=>by rw[aQ (cI e f)];exact e) (λb _ _ e=>by rw[aQ (cI e f)];exact e) (λb J e=>⟨#[],by rw[aQ (cI e f),e];simp⟩) (λm t=>?_) (λb u e=>?_) I.bare
 ·obtain⟨f0,C,L,B,y,x⟩:=d b h;exact⟨B,C,y,x⟩
 ·obtain⟨o,E,F,l,r⟩:=t;exact⟨o,E,F,k _ o (λz=>(d _ z).2.1 rfl) l,r⟩
 ·by_cases h:b=T
  ·subst h;rw[cg] at e;cases e;exact⟨hz,us,hv,i⟩
  ·rw[aQ h] at e
   refine(I.hok b u e).stay (λc v a q=>k c v ?_ q) (λc q=>by rw[aQ (cI q f)];exact q) λc G q=>by rw[aQ (cI q f)];exact q
   rcases a with z | z
   ·rw[z];exact g b u e
   ·exact g c _ z
end
def Ite(K:Frag)(l:Addr):It:=⟨λi H=>∃a x,SqL K H l a/\a[i]?=some x,λi H v b=>∃T x,v=.ref T/\H T=none/\b=upd H T (.tup [.int i,x])/\∀a,SqL K H l a->a[i]?=some x,λi H=>∃a,SqL K H l a/\a.length<=i⟩
def Jf(l:List Nat):It:=⟨λi _=>i<l.length,λi H v a=>∃T c,v=.ref T/\H T=none/\a=upd H T (.tup [.int i,.str (S [c])])/\l[i]?=some c,λi _=>l.length<=i⟩
theorem nj{h:Heap}{b:Addr}{o:Obj}{vs:Array Value}(e:h.get? b=some o)(d:o.data=.fields vs):∃o,h.get? b=some o/\∀v,o.data≠.cell v:=⟨o,e,λv z=>by rw[d] at z;cases z⟩
theorem Wt{P:Program}{w:World}{K:Frag}{elts:List Expr}{x1}{pos:Pos}(e it l:Addr)(hne:e≠it):Turn P w K (.Tuple elts x1 pos) (Ite K l) [e,it] e (λi h=>(∃old,IsEnum h e it i old)/\h.IsListIter it l i) where
 mem:=by simp
 obj:=λi h st b hb=>by
  obtain⟨⟨old,he⟩,o,ho,hc,hd⟩:=st
  rcases zk.mp hb with rfl | hb
  ·exact nj he rfl
  ·rw[zt.mp hb];exact nj ho hd
 keep:=λi h h' st k=>by
  obtain⟨⟨old,he⟩,o,ho,r⟩:=st;exact⟨⟨old,k e (by simp) _ he⟩,o,k it (by simp) o ho,r⟩
 item:=by
  intro X hP hw hK hc i pins s σ H E I hf st hg;subst hP hw hK;obtain⟨⟨old,he⟩,hit⟩:=st;obtain⟨xs,x,hq,hx⟩:=hg;obtain⟨its,rv,pl,hz⟩:=I.list hq;obtain⟨u,hu,ru⟩:=rv.get hx;have hT:H s.heap.objs.size=none:=I.hok.fresh (zc _);have elt:e<s.heap.objs.size:=zj he
  refine wpAny_pyNext_enum_item he hit pl.isList (x:=u) (by simpa using hu) hne λh' ho hit' hTup hsz hk=>⟨_,rfl,?_⟩
  refine wpAny_letOwnedTupleGo_enum ho λh'' he'' hs''=>⟨.ref s.heap.objs.size,_,?_,rfl,⟨s.heap.objs.size,x,rfl,hT,rfl,λys hy=>by rw[I.list_inj hy hq];exact hx⟩,⟨⟨_,by simpa using he''⟩,hit'.extBut hs''.extBut (Ne.symm hne)⟩,λb hb=>?_⟩
  ·show Inv X pins σ _ {s with heap:=h'',toks:=s.toks+1};refine I.turnT (ch:=[e,it]) (us:=[.int i s.toks,u]) hf (λb o hb q=>?_) (zc _) ⟨_,hs''.extBut _ _ (Nat.ne_of_gt elt) hTup,rfl,_,rfl⟩ (.cons ⟨_,rfl⟩ (.cons ru .nil)) (by show 2<=sizeLine;decide)
   have h1:b≠e:=λz=>hb (by simp[z])
   have h2:b≠it:=λz=>hb (by simp[z])
   exact hs''.extBut _ _ h1 (hk b o h1 h2 q)
  ·have q:=hf b hb;rw[aQ (λz=>?_)]
   ·exact q.1
   ·obtain⟨o,ho⟩:∃o,s.heap.get? b=some o:=by
     rcases zk.mp hb with rfl | hb
     ·exact⟨_,he⟩
     ·rw[zt.mp hb];obtain⟨o,ho,_⟩:=hit;exact⟨o,ho⟩
    exact absurd (zj ho) (by rw[z];exact zQ _)
 done:=by
  intro X hP hw hK hc i pins s σ H E I hf st hg;subst hP hw hK;obtain⟨⟨old,he⟩,hit⟩:=st;obtain⟨xs,hq,hl⟩:=hg;obtain⟨its,rv,pl,hz⟩:=I.list hq
  refine wpAny_pyNext_enum_end (I.ok.hd hc) he hit pl.isList (by have:=rv.length;simp;omega) λh' hx=>⟨rfl,?_⟩
  exact I.turnL (t':=s.toks) (ch:=[e,it]) hf λb o hb q=>hx b o (λz=>hb (by simp[z])) q
 self:=λA i s Q E st h=>by
  obtain⟨⟨old,he⟩,_⟩:=st;exact wpAny_pyIter_enum he h
theorem Wu{P:Program}{w:World}{K:Frag}{elts:List Expr}{x1}{pos:Pos}(e it:Addr)(l:List Nat)(t:Tok)(hne:e≠it):Turn P w K (.Tuple elts x1 pos) (Jf l) [e,it] e (λi h=>(∃old,IsEnum h e it i old)/\h.IsStrIter it "str_ascii_iterator" (S l) t i) where
 mem:=by simp
 obj:=λi h st b hb=>by
  obtain⟨⟨old,he⟩,o,ho,hc,hd⟩:=st
  rcases zk.mp hb with rfl | hb
  ·exact nj he rfl
  ·rw[zt.mp hb];exact nj ho hd
 keep:=λi h h' st k=>by
  obtain⟨⟨old,he⟩,o,ho,r⟩:=st;exact⟨⟨old,k e (by simp) _ he⟩,o,k it (by simp) o ho,r⟩
 item:=by
  intro X hP hw hK hc i pins s σ H E I hf st hg;subst hP hw hK;obtain⟨⟨old,he⟩,hit⟩:=st;have hg':i<l.length:=hg;have hT:H s.heap.objs.size=none:=I.hok.fresh (zc _);have elt:e<s.heap.objs.size:=zj he;have hd:X.A.in1.handled=none:=I.ok.hd hc
  refine wpAny_pyNext_enum_itemD (Draws.strAscii hd it (S l) t) he hit (by simpa [S] using hg') hne (λz=>hne (by simpa using z)) λu h' tk hP ho hit' hTup hsz hk=>⟨_,rfl,?_⟩
  obtain⟨c,tc,hcx,rfl⟩:=hP
  have hcl:l[i]?=some c:=by
   rw[<-hcx];simp[S]
  refine wpAny_letOwnedTupleGo_enum ho λh'' he'' hs''=>⟨.ref s.heap.objs.size,_,?_,rfl,⟨s.heap.objs.size,c,rfl,hT,rfl,hcl⟩,⟨⟨_,by simpa using he''⟩,?_⟩,λb hb=>?_⟩
  ·show Inv X pins σ _ {s with heap:=h'',toks:=tk+1};refine I.turnT (ch:=[e,it]) (us:=[.int i tk,.str ⟨#[c]⟩ tc]) hf (λb o hb q=>?_) (zc _) ⟨_,hs''.extBut _ _ (Nat.ne_of_gt elt) hTup,rfl,_,rfl⟩ (.cons ⟨_,rfl⟩ (.cons ⟨_,rfl⟩ .nil)) (by show 2<=sizeLine;decide)
   have h1:b≠e:=λz=>hb (by simp[z])
   have h2:b≠it:=λz=>hb (by simp[z])
   exact hs''.extBut _ _ h1 (hk b o h1 h2 q)
  ·obtain⟨o,ho',r⟩:=hit';exact⟨o,hs''.extBut _ _ (Ne.symm hne) ho',r⟩
  ·have q:=hf b hb;rw[aQ (λz=>?_)]
   ·exact q.1
   ·obtain⟨o,ho⟩:∃o,s.heap.get? b=some o:=by
     rcases zk.mp hb with rfl | hb
     ·exact⟨_,he⟩
     ·rw[zt.mp hb];obtain⟨o,ho,_⟩:=hit;exact⟨o,ho⟩
    exact absurd (zj ho) (by rw[z];exact zQ _)
 done:=by
  intro X hP hw hK hc i pins s σ H E I hf st hg;subst hP hw hK;obtain⟨⟨old,he⟩,hit⟩:=st;have hd:X.A.in1.handled=none:=I.ok.hd hc;have hg':l.length<=i:=hg;have hT:s.TypeIs (.ref e) "enumerate":=⟨_,he,rfl⟩;unfold pyNext
  refine za (wpAny_attempt (wpAny_callSpecial?_slot (name:=Str.ofString "__next__") hT F.slot_enumerate_next
   (wpAny_call_entry F.slot_enumerate_next hT F.entry_enumerate_next ?_ (F.args_enumerate_next_1 _))))
  show wpAny _ _ (field (.ref e) 2 >>= _) _ _ _;refine za (wpAny_field he rfl (x:=.ref it) rfl ?_);refine za (wpAny_nextOf_ascii_end hd hit (by simp[S];exact hg') λh' x he' hx'=>?_);obtain⟨o,ho,hc⟩:=hx';refine za (wpAny_isInstance (T:="StopIteration") (b:=true) ⟨o,ho,hc⟩ isSubtype_stop ?_);exact zb ⟨rfl,I.turnL (t':=s.toks) (ch:=[e,it]) hf λb o hb q=>he' b o (λz=>hb (by simp[z])) q⟩
 self:=λA i s Q E st h=>by
  obtain⟨⟨old,he⟩,_⟩:=st;exact wpAny_pyIter_enum he h
section
variable {X:Cx}{elts:List Expr}{x1:Nat}{tpos:Pos}
def Wv(K:Frag)(f:TA):TI:=λσ H R=>f σ H λd b=>∃a,d=[.ref a]/\(∃c,SqL K b a c)/\R (Ite K a) b
def Ww(b:TA):TI:=λσ H R=>b σ H λa c=>∃l,a=[.str (S l)]/\ascii l=true/\R (Jf l) c
theorem Wx{l:List Nat}(h:ascii l=true):strIterType (S l) = "str_ascii_iterator":=by
 unfold strIterType;rw[if_pos];unfold ascii at h;rw[List.all_eq_true] at h;simp[S];intro i a;simpa using h i a
theorem Wz{a:Expr}{g:TA}{p c:Pos}(t:Gl X "enumerate")(n:X.mg "enumerate" = none)(x:PA X [a] g)(hs:starEach [a] X.env=[(false,eval a X.env)]:=by exact oN rfl):PI X (.Tuple elts x1 tpos) (.Call (.Name "enumerate" p) [a] [] c) (Wv X.K g):=by
 intro pins s σ H R I h;refine Call_ (j6 I t n boot_enumerate (PyProof.Rows.callWith_type1 (thn (x c pins s σ H _ I h) λus s1 ⟨vs,H1,I1,r1,q1⟩=>?_) hs rfl));obtain⟨l,e,⟨C,m⟩,q⟩:=q1;subst e;obtain⟨u,rfl,j⟩:=vals1 r1;cases j;obtain⟨y,rv,k,E⟩:=I1.list m
 refine call_enumerate_list k.isList λF i f B r=>wpAny_pyIter_enum i ?_
 refine⟨s1.heap.objs.size+1,[s1.heap.objs.size+1,s1.heap.objs.size],_,_,H1,rfl,I1.kept (t':=s1.toks) r,Wt (s1.heap.objs.size+1) s1.heap.objs.size l (Nat.succ_ne_self _),⟨⟨_,i⟩,f⟩,λb d=>?_,q⟩
 have hb':s1.heap.objs.size<=b:=by
  rcases zk.mp d with rfl | d
  ·exact Nat.le_succ _
  ·rw[zt.mp d];exact zc _
 exact I1.fpOk hb' (I1.hok.fresh hb')
theorem WD{a:Expr}{g:TA}{p c:Pos}(n:Gl X "enumerate")(j:X.mg "enumerate" = none)(r:PA X [a] g)(hs:starEach [a] X.env=[(false,eval a X.env)]:=by exact oN rfl):PI X (.Tuple elts x1 tpos) (.Call (.Name "enumerate" p) [a] [] c) (Ww g):=by
 intro pins s σ H R I h;refine Call_ (j6 I n j boot_enumerate (PyProof.Rows.callWith_type1 (thn (r c pins s σ H _ I h) λus s1 ⟨vs,H1,I1,r1,q1⟩=>?_) hs rfl));obtain⟨l,e,k,q⟩:=q1;subst e;obtain⟨u,rfl,t,rfl⟩:=vals1 r1
 refine call_enumerate_str λy i d x m=>wpAny_pyIter_enum i ?_
 rw[Wx k] at d;refine⟨s1.heap.objs.size+1,[s1.heap.objs.size+1,s1.heap.objs.size],_,_,H1,rfl,I1.kept (t':=s1.toks) m,Wu (s1.heap.objs.size+1) s1.heap.objs.size l t (Nat.succ_ne_self _),⟨⟨_,i⟩,d⟩,λb f=>?_,q⟩
 have hb':s1.heap.objs.size<=b:=by
  rcases zk.mp f with rfl | f
  ·exact Nat.le_succ _
  ·rw[zt.mp f];exact zc _
 exact I1.fpOk hb' (I1.hok.fresh hb')
end
def rW(K:Frag)(P:Pt):RR:=λ_ H F b v d=>Rp K F b v d\/∃a c f,v=.ref a/\d=.lst f/\H a=some (.lst c)/\a∉b/\P a/\Rps K F b c f
def WE(X:Cx)(md:List Md)(P:Pt)(e:Expr)(m:M D):Prop:=PE X e (tM X.K X.mg md P (rW X.K P) m)
section
variable {X:Cx}{md:List Md}{P:Pt}{R:RR}
theorem rn{e:Expr}{m:M D}(h:VE X md P e m):WE X md P e m:=h.imp λσ H Q q=>by
 obtain⟨ρ,O,F,f,d,i,r,s,e,k⟩:=q;exact⟨ρ,O,F,f,d,i,r,s,e,λv j l a g b c=>k v j l a g b (.inl c)⟩
theorem o8(i:Nat){x:Str}{a:Pos}(f:md[i]?=some .s:=by rfl)(hN:X.N[i]?=some x:=by rfl)(c:Vis X.env.scope x:=by first | exact Or.inl rfl | exact Or.inr (Or.inl rfl) | exact Or.inr (Or.inr rfl))
  (hd:(x == ("__debug__":Str))=false:=by decide) (b:(x == ("__classdict__":Str))=false:=by decide):WE X md P (.Name x a) (aa i):=by
 refine(lM (i:=i) hN c hd b).imp λσ H Q h=>?_
 obtain⟨ρ,O,F,j,d,l,r,s,e,k⟩:=h;obtain⟨g,rfl⟩:=qP e;obtain⟨v,h2,h3⟩:=s.sl i .s d f g;exact⟨v,h2,k v H F j Gr.refl r h3⟩
theorem uz{K:Frag}{mg:Str->Option Value}{N:Addr->Prop}{H F:Hp}{f:List Addr}{v:V}{ds:List D}(hv:rW K P N H F f v (.lst ds)):
  ∃a xs,v=.ref a/\Rps K F f xs ds/\∀(c d:Hp) (b:List Addr),GrS P H F f c d b->(∃O,RlO K mg O c d b)->RdK K c a xs:=by
 rcases hv with hv | ⟨a,xs,l,rfl,e,k,j,i,h⟩
 ·obtain⟨a,xs,rfl,h1,h2⟩:=hv.unL;exact⟨a,xs,rfl,h2,λc d b g ⟨O,r⟩=>(h1.mono g.ff).mono r.fh⟩
 ·cases e;exact⟨a,xs,rfl,h,λc d b g _=>.inl (.inl (g.fr _ _ i k j rfl))⟩
theorem WK{j e:Expr}{m:M D}(h:WE X md P e m):VI X md P j e (uy m):=(GK h).imp λσ H Q q=>by
 obtain⟨ρ,O,F,u,x,B,r,s,e,k⟩:=q;obtain⟨d,y,t,e⟩:=Res.bind_ok e
 cases d with
 |lst es =>
  cases e;refine⟨ρ,_,F,u,_,_,r,s,t,λv f g b n c l=>?_⟩;obtain⟨a,i,rfl,h1,h2⟩:=uz (mg:=X.mg) l;exact⟨a,rfl,⟨i,(h2 f g b GrS.refl ⟨_,c⟩).sq⟩,k _ f g b n c (Ws h1 h2)⟩
 | _=>cases e
theorem Jg{E e:Expr}{m:M D}(h:VE X md P e m):VI X md P E e (yh m):=(Rz h).imp λσ H Q q=>by
 obtain⟨ρ,O,F,L,T,W,r,s,e,k⟩:=q;obtain⟨d,U,J,e⟩:=Res.bind_ok e
 cases d with
 |tup es =>
  cases e;refine⟨ρ,_,F,L,_,_,r,s,J,λv u B j I C G=>?_⟩;obtain⟨a,l,rfl,h1,h2⟩:=Rp.unT G
  have t:∀(c f:Hp) (b:List Addr),GrS P u B j c f b->(∃O,RlO X.K X.mg O c f b)->SqT X.K c a l:=λc f b g ⟨O,r⟩=>Same.seqT r.fh (Same.seqT g.ff h1)
  refine⟨a,rfl,⟨l,t u B j GrS.refl ⟨_,C⟩⟩,k _ u B j I C ⟨λi d c f b g r e=>?_,λc f b g r=>⟨l,t c f b g r,by rw[h2.length];exact zc _⟩⟩⟩;obtain⟨x,h3,h4⟩:=h2.get' e;have q:=t c f b g r;refine⟨⟨l,x,q,h3⟩,λy Y n=>?_⟩;obtain⟨rfl,n⟩:=n
  have:=n l q
  rw[h3] at this;cases this;exact⟨f,Gr.refl,λ_ r=>r,h4.grS g⟩
 | _=>cases e
def cZ(l:List Nat):List D:=l.map λc=>.str [c]
def yj(m:M D):M (List D):=λρ O=>(m ρ O).bind λd a=>match d with
 | .str l=>if ascii l=true then .ok (cZ l) a else .no
 | _=>.no
theorem ym{K:Frag}{mg:Str->Option Value}{J:It}{ds:List D}{H F:Hp}{c:List Addr}(h1:∀(i:Nat) (d:D) (a:Hp),ds[i]?=some d->J.go i a/\∀x b,J.yld i a x b->b=a/\∀K F c,Rp K F c x d)(h2:∀a,J.stop ds.length a):m6 K mg P J ds H F c :=
 ⟨λi d a g h _ _ e=>⟨(h1 i d a e).1,λx b y=>by
  obtain⟨rfl,f⟩:=(h1 i d a e).2 x b y
  exact⟨g,Gr.refl,λ_ r=>r,f _ _ _⟩⟩,λa _ _ _ _=>h2 a⟩
theorem Jh{g e:Expr}{m:M D}(h:SE X md P e m):VI X md P g e (yj m):=(Vm h).imp λσ H Q q=>by
 obtain⟨ρ,O,F,B,I,T,r,s,e,k⟩:=q;obtain⟨d,L,a,e⟩:=Res.bind_ok e
 cases d with
 |str l =>
  dsimp only at e;split at e
  ·rename_i t;cases e;refine⟨ρ,_,F,B,_,_,r,s,a,λv E G b u j n=>?_⟩;refine⟨l,(Sv.rp n rfl).unS,t,k _ E G b u j (ym (λi d C e=>?_) λC=>by simp[cZ,Its])⟩;unfold cZ at e;rw[zA] at e
   cases q:l[i]? with
   |none=>rw[q] at e;cases e
   |some c =>
    rw[q] at e;cases e;refine⟨(zq.mp q).1,λx U y=>?_⟩;obtain⟨a,J,f,rfl⟩:=y;rw[q] at f;cases f;exact⟨a,λ_ _ _=>Rp.str⟩
  ·cases e
 | _=>cases e
def gK(lo:Int)(n:Nat):List D:=(List.range n).map λ(k:Nat)=>.int (lo+(k:Int))
def lu(m:M (List D)):M (List D):=λρ O=>(m ρ O).bind λa b=>match a with
 | [.int j]=>if j<=1000000000/\-1000000000<=j then .ok (gK 0 j.toNat) b else .no
 | _=>.no
theorem WL{K:Frag}{mg:Str->Option Value}{lo:Int}{n:Nat}{H F:Hp}{c:List Addr}:m6 K mg P (Itr lo n) (gK lo n) H F c:=ym (λi d f e=>by
 unfold gK at e;rw[zA] at e
 by_cases a:i<n
 ·rw[List.getElem?_range a] at e;cases e;refine⟨a,λx g y=>?_⟩;obtain⟨b,rfl⟩:=y;exact⟨b,λ_ _ _=>Rp.int⟩
 ·rw[jg (by simpa using a)] at e
  cases e) λf=>by simp[gK,Itr]
theorem c7.one{K:Frag}{H F:Hp}{a:List Addr}{m:Md}{vs:List V}{d:D}(h:c7 K H F a [m] vs [d]):∃v,vs=[v]/\rA K m (λ_=>True) H F a v d:=by
 cases vs with
 |nil=>exact h.elim
 |cons v vs =>
  cases vs with
  |nil=>exact⟨v,rfl,h.1⟩
  |cons u b=>exact h.2.elim
theorem c7.two{K:Frag}{H F:Hp}{a:List Addr}{m n:Md}{vs:List V}{d e:D}(h:c7 K H F a [m,n] vs [d,e]):∃v u,vs=[v,u]/\rA K m (λ_=>True) H F a v d/\rA K n (λ_=>True) H F a u e:=by
 cases vs with
 |nil=>exact h.elim
 |cons v vs =>
  cases vs with
  |nil=>exact h.2.elim
  |cons u us =>
   cases us with
   |nil=>exact⟨v,u,rfl,h.1,h.2.1⟩
   |cons w b=>exact h.2.2.elim
theorem yo{f a:Expr}{p b:Pos}{m:M (List D)}(l:X.mg "range" = none)(t:AE X md P [.s] [a] m)(n:Gl X "range":=by rfl)(i:starEach [a] X.env=[(false,eval a X.env)]:=by exact oN rfl):VI X md P f (.Call (.Name "range" p) [a] [] b) (lu m):=(RD n l t i).imp λσ H Q q=>by
 obtain⟨ρ,O,F,y,J,T,r,s,e,k⟩:=q;obtain⟨I,L,x,e⟩:=Res.bind_ok e;split at e
 ·rename_i j;split at e
  ·rename_i G;cases e;refine⟨ρ,_,F,y,_,_,r,s,x,λE B C d u g h=>?_⟩;obtain⟨v,rfl,c⟩:=h.one
   have:=(Sv.rp c rfl).unI
   subst this;exact⟨j,rfl,by omega,by omega,k _ B C d u g WL⟩
  ·cases e
 ·cases e
def dR:Nat->List D->List D
 | _,[]=>[]
 |k,d::ds=>.tup [.int k,d]::dR (k+1) ds
theorem uA:∀(k:Nat) (ds:List D),(dR k ds).length=ds.length
 | _,[]=>rfl
 |k,d::ds=>by simp[dR,uA (k+1) ds]
theorem uB:∀(k:Nat) (ds:List D) (i:Nat),(dR k ds)[i]?=(ds[i]?).map λd=>.tup [.int ((k+i:Nat):Int),d]
 |k,[],i=>by simp[dR]
 |k,d::ds,0=>by simp[dR]
 |k,d::ds,i+1=>by
  rw[dR,jh,jh,uB (k+1) ds i];congr 1
  funext d
  congr 3;omega
theorem yp{K:Frag}{mg:Str->Option Value}{d c:Hp}{a:List Addr}{T:Addr}{xs:List V}{ds:List D}(k:∃O,RlO K mg O d c a)(f:d T=none)(j:Rps K c a xs ds):
  ∃h,Gr d c a (upd d T (.tup xs)) h a/\(∀O,RlO K mg O d c a->RlO K mg O (upd d T (.tup xs)) h a)/\Rp K h a (.ref T) (.tup ds):=by
 obtain⟨O,r⟩:=k;have g:=r.frF f
 have ff:Same c (upd c T (.tup xs)):=λb u q=>by rw[aQ (cI q g)];exact q
 exact⟨upd c T (.tup xs),(Gr.lay f).frz f g,λl i=>(i.lay f).frz cg g (λz=>i.all z f) rfl,Rp.mkT (.inl cg) (Rps.mono ff (λ_ _ z=>z) _ j)⟩
def Ji(m:M D):M (List D):=λρ O=>(m ρ O).bind λd a=>match d with
 | .lst ds=>.ok (dR 0 ds) a
 | _=>.no
def Jj(m:M D):M (List D):=λρ O=>(m ρ O).bind λd a=>match d with
 | .str l=>if ascii l=true then .ok (dR 0 (cZ l)) a else .no
 | _=>.no
variable {elts:List Expr}{x1:Nat}{tpos:Pos}
theorem WM{a:Expr}{p n:Pos}{m:M D}(U:X.mg "enumerate" = none)(h:WE X md P a m)(W:Gl X "enumerate":=by rfl)(L:starEach [a] X.env=[(false,eval a X.env)]:=by exact oN rfl)(u:starEach [a] X.env=(false,eval a X.env)::starEach [] X.env:=by exact cV rfl):
  VI X md P (.Tuple elts x1 tpos) (.Call (.Name "enumerate" p) [a] [] n) (Ji m):=(Wz W U (gW h jz u) L).imp λσ H Q q=>by
 obtain⟨ρ,O,F,as,ds,O',r,s,e,k⟩:=q;obtain⟨d,O1,e1,e⟩:=Res.bind_ok e
 cases d with
 |lst es =>
  cases e;refine⟨ρ,_,F,as,_,_,r,s,e1,λv E G c Z B J=>?_⟩;obtain⟨a,f,rfl,h1,h2⟩:=uz (mg:=X.mg) J;refine⟨a,rfl,⟨f,(h2 E G c GrS.refl ⟨_,B⟩).sq⟩,k _ E G c Z B ⟨λi d j l b g r e=>?_,λj l b g r=>⟨f,(h2 j l b g r).sq,by rw[uA,h1.length];exact zc _⟩⟩⟩;rw[uB] at e
  cases q:es[i]? with
  |none=>rw[q] at e;cases e
  |some y =>
   rw[q] at e;cases e;obtain⟨x,h3,h4⟩:=h1.get' q;have C:=h2 j l b g r;refine⟨⟨f,x,C.sq,h3⟩,λz H3 I=>?_⟩;obtain⟨T,x',rfl,Y,rfl,t⟩:=I
   have:=t f C.sq
   rw[h3] at this;cases this;rw[zZ];exact yp r Y (Rps.cons Rp.int (Rps.cons (h4.grS g) Rps.nil))
 | _=>cases e
theorem WN{a:Expr}{p f:Pos}{m:M D}(C:X.mg "enumerate" = none)(h:SE X md P a m)(G:Gl X "enumerate":=by rfl)(B:starEach [a] X.env=[(false,eval a X.env)]:=by exact oN rfl)(j:starEach [a] X.env=(false,eval a X.env)::starEach [] X.env:=by exact cV rfl):
  VI X md P (.Tuple elts x1 tpos) (.Call (.Name "enumerate" p) [a] [] f) (Jj m):=(WD G C (gW h jz j) B).imp λσ H Q q=>by
 obtain⟨ρ,O,F,U,ds,O',r,s,e,k⟩:=q;obtain⟨d,O1,L,e⟩:=Res.bind_ok e
 cases d with
 |str l =>
  dsimp only at e;split at e
  ·rename_i E;cases e;refine⟨ρ,_,F,U,_,_,r,s,L,λv Y F1 t J u y=>?_⟩;refine⟨l,by rw[(Sv.rp y rfl).unS],E,k _ Y F1 t J u ⟨λi d W Z n g r e=>?_,λW Z n g r=>?_⟩⟩
   ·rw[uB] at e;unfold cZ at e;rw[zA] at e
    cases q:l[i]? with
    |none=>rw[q] at e;cases e
    |some c =>
     rw[q] at e;cases e;refine⟨(zq.mp q).1,λz H3 x=>?_⟩;obtain⟨T,c',rfl,I,rfl,b⟩:=x;rw[q] at b;cases b;rw[zZ];exact yp r I (Rps.cons Rp.int (Rps.cons Rp.str Rps.nil))
   ·show l.length<=_;rw[uA];simp[cZ]
  ·cases e
 | _=>cases e
def jM:List D->Option (List (List Nat))
 | []=>some []
 | .str l::ds=>(jM ds).map (l :: ·)
 | _=>none
theorem Rps.strs{K:Frag}{F:Hp}{a:List Addr}:∀{ds:List D}{xs:List V}{ls:List (List Nat)},Rps K F a xs ds->jM ds=some ls->xs=ls.map λl=>V.str (S l)
 | [],xs,bs,h,e=>by cases e;rw[h.un0];rfl
 |d::ds,xs,bs,h,e=>by
  obtain⟨x,r,rfl,h2,h3⟩:=h.un
  cases d with
  |str b =>
   unfold jM at e
   cases q:jM ds with
   |none=>rw[q] at e;cases e
   |some cs =>
    rw[q] at e;cases e;rw[h2.unS,Rps.strs h3 q];rfl
  | _=>cases e
def rE(m:M D):M D:=λρ O=>(m ρ O).bind λd a=>match bK a d with
 | .lst ds=>match jM ds with
  |some ls=>if(ls.map List.length).sum<=1000000 then .ok (.str ls.flatten) a else .no
  |none=>.no
 | _=>.no
theorem WQ{e:Expr}{j:Nat}{p apos b:Pos}{m:M D}(h:SE X md P e m){x:Str}(B:x=S []:=by decide +kernel)
  (i:((backTo b (starEach [e] X.env)).all (λx=>!x.1)&&(backToKw b (keywordEach [] X.env)).all (λx=>x.1.isSome)&&decide ([e].length+([]:List Keyword).length+(if([]:List Keyword).isEmpty then 0 else 1)<30))=true:=by rfl)
  (f:(apos.endLine == b.line)=true:=by rfl) (t:starEach [e] X.env=(false,eval e X.env)::starEach [] X.env:=by exact cV rfl) (g:attributeBase (.Constant (.str x) j p) "join" X.env (eval (.Constant (.str x) j p) X.env)=eval (.Constant (.str x) j p) X.env:=by rfl) (c:(backTo b (starEach [] X.env)).any (·.1)=false:=by exact dW rfl):
  OE X md P (.Call (.Attribute (.Constant (.str x) j p) "join" apos) [e] [] b) (rE m):=
 (uf PySem.F.plainAttrs_str PySem.F.slot_str_join PySem.F.type_str_join (Vw X.K) (Gw (x:=x)) (gW h jz t) g i f t c).imp λσ H Q q=>by
  obtain⟨ρ,O,F,I,d,W,r,s,e,k⟩:=q;obtain⟨y,J,G,e⟩:=Res.bind_ok e
  cases ed:bK J y with
  |lst ds =>
   rw[ed] at e;dsimp only at e
   cases es:jM ds with
   |none=>rw[es] at e;cases e
   |some ls =>
    rw[es] at e;dsimp only at e;split at e
    ·rename_i u;cases e;refine⟨rfl,ρ,_,F,I,_,_,r,s,G,λv L T n E l C=>?_⟩;have q:=Sv.lk C l;rw[ed] at q;obtain⟨a,U,rfl,h1,h2⟩:=q.list l.fh;refine⟨a,ls,by rw[B],rfl,?_,u,k _ L T n E l (.inl ⟨rfl,Rp.str⟩)⟩;rw[<-h2.strs es];exact h1.sq
    ·cases e
  | _=>rw[ed] at e;cases e
def uC(c m:M D):M D:=λρ O=>(c ρ O).bind λa f=>(m ρ f).bind λb d=>match a,b with
 | .str l,.str n=>.ok (.bl (decide (l.take n.length=n))) d
 | _,_=>.no
theorem Jk{o e:Expr}{apos c:Pos}{t m:M D}(J:VE X md P o t)(h:VE X md P e m)
  (i:attributeBase o "startswith" X.env (eval o X.env)=eval o X.env:=by rfl)
  (j:((backTo c (starEach [e] X.env)).all (λx=>!x.1)&&(backToKw c (keywordEach [] X.env)).all (λx=>x.1.isSome)&&decide ([e].length+([]:List Keyword).length+(if([]:List Keyword).isEmpty then 0 else 1)<30))=true:=by rfl)
  (g:(apos.endLine == c.line)=true:=by rfl) (y:starEach [e] X.env=(false,eval e X.env)::starEach [] X.env:=by exact cV rfl) (f:(backTo c (starEach [] X.env)).any (·.1)=false:=by exact dW rfl):
  OE X md P (.Call (.Attribute o "startswith" apos) [e] [] c) (uC t m):=
 (uf PySem.F.plainAttrs_str PySem.F.slot_str_startswith PySem.F.type_str_startswith VD J (gW h jz y) i j g y f).imp λσ H Q q=>by
  obtain⟨ρ,O,F,W,d,O',r,s,e,k⟩:=q;obtain⟨a,O1,U,e⟩:=Res.bind_ok e;obtain⟨b,O2,T,e⟩:=Res.bind_ok e;split at e
  ·cases e;refine⟨ρ,_,F,W,_,_,r,s,U,λv H1 F1 n B E G=>?_⟩;cases Rp.unS G;refine⟨rfl,ρ,_,F1,n,_,_,E,s.step B,T,λu Y Z l L C I=>?_⟩;cases Rp.unS I;exact⟨_,_,rfl,rfl,k _ Y Z l (B.trans L) C (.inl ⟨rfl,Rp.bl⟩)⟩
  ·cases e
end
section
variable {K:Frag}{mg:Str->Option Value}{md:List Md}{P:Pt}{ρ:aA}{σ:St}{H F:Hp}{as:List Addr}{O:aq}{i:Nat}{a:Addr}{xs xs':List V}{ds ds':List D}
theorem SlO.own(s:SlO K md P ρ σ H F as)(c:md[i]?=some .o)(b:ρ[i]?=some (some (.lst ds))):∃a xs,σ[i]?=some (some (.ref a))/\H a=some (.lst xs)/\F a=none/\a∉as/\¬P a/\Rps K F as xs ds:=by
 obtain⟨v,h1,h2⟩:=s.sl i .o _ c b
 rcases h2 with⟨h2,_⟩ | ⟨a,xs,l,rfl,j,h,k,g,f,d⟩
 ·cases h2
 ·cases j;exact⟨a,xs,h1,h,k,g,f,d⟩
theorem SlO.mut(s:SlO K md P ρ σ H F as)(E:md[i]?=some .o)(u:ρ[i]?=some (some (.lst ds)))(t:σ[i]?=some (some (.ref a)))(hF:F a=none)(ha:a∉as)(X:¬P a)(r:Rps K F as xs' ds'):SlO K md P (ρ.set i (some (.lst ds'))) σ (upd H a (.lst xs')) F as:=by
 have hi:i<md.length:=(zq.mp E).1;refine⟨s.len,by rw[jf];exact s.len',λc p=>?_,λj m d G n=>?_,λj k c b fs h1 h2 h3 h4 h5 h6=>?_,λx hx=>?_⟩
 ·have:=s.pd c p
  unfold upd
  split
  ·exact λz=>nomatch z
  ·exact this
 ·by_cases h:i=j
  ·subst h;rw[E] at G;cases G;rw[zM (by rw[s.len'];exact hi)] at n;cases n;exact⟨_,t,.inr ⟨a,xs',ds',rfl,rfl,cg,hF,ha,X,r⟩⟩
  ·rw[zv h] at n;obtain⟨v,W,g⟩:=s.sl j m d G n;refine⟨v,W,?_⟩
   cases m with
   |v=>exact g
   |s =>
    rcases g with g | ⟨c,Q,b,C,B,L,J,y,I⟩
    ·exact .inl g
    ·exact .inr ⟨c,Q,b,C,B,by rw[aQ (λz=>X (by rw[<-z];exact y))];exact L,J,y,I⟩
   |o =>
    rcases g with g | ⟨c,Q,b,C,B,L,Y,J,y,I⟩
    ·exact .inl g
    ·refine .inr ⟨c,Q,b,C,B,?_,Y,J,y,I⟩;rw[aQ]
     ·exact L
     ·intro z;subst z C B;exact h (s.inj i j c ds b E G u n t W)
 ·have f:∀k b,(ρ.set i (some (.lst ds')))[k]?=some (some (D.lst b))->∃l,ρ[k]?=some (some (D.lst l)):=λk b q=>by
   by_cases h:i=k
   ·subst h;exact⟨ds,u⟩
   ·rw[zv h] at q;exact⟨b,q⟩
  obtain⟨l,q3⟩:=f j b h3;obtain⟨U,Z⟩:=f k fs h4;exact s.inj j k c l U h1 h2 q3 Z h5 h6
 ·obtain⟨R,p2,p3⟩:=s.pin x hx
  have T:i≠x.1:=λz=>by rw[<-z,E] at R;cases R
  exact⟨R,by rw[zv T];exact p2,p3⟩
theorem yq{xs:List V}(d:H a=some (.lst xs))(b:¬P a){o:HO}:GrS P H F as (upd H a o) F as :=
 ⟨λ_ _ _ _ _ _=>rfl,Same.refl F,⟨[],by simp,λ_ h=>nomatch h⟩,λc u p e _ _=>by rw[aQ (λz=>b (by rw[<-z];exact p))];exact e,λc e=>by
  by_cases h:c=a
  ·subst h;rw[cg] at e;cases e
  ·rwa [aQ h] at e,λc f u e=>by rw[aQ (λz=>by rw[z,d] at e;cases e)];exact e⟩
theorem RlO.mut(r:RlO K mg O H F as)(g:F a=none)(f:a∉as){o:HO}:RlO K mg O (upd H a o) F as:=by
 refine⟨λc u e=>?_,r.fd,r.nd,r.len,r.fa,λn c u b d=>(r.ob n c u b d).keep (aQ ?_) (Same.refl F) λ_ _ h=>h⟩
 ·rw[aQ (cI e g)];exact r.fh c u e
 ·intro z;subst z;exact f (zH b)
end
section
variable {X:Cx}{md:List Md}{P:Pt}{R:RR}
def cO(i:Nat)(m:M D):MS:=λρ O=>match m ρ O with
 | .ok d O'=>match ρ[i]? with
  |some (some (.lst ds))=>if ds.length<1000000 then .nx (ρ.set i (some (.lst (ds++[d])))) O' else .no
  | _=>.no
 | .ex x O'=>.ex x O'
 | .no=>.no
theorem WR{i:Nat}{m:M D}{ρ:aA}{O:aq}(K:Frag)(mg:Str->Option Value){D:Ends}{H F:Hp}{b:List Addr}(k:kE K mg md P R D H F b (cO i m ρ O)):
  ∃d a ds,m ρ O=.ok d a/\ρ[i]?=some (some (.lst ds))/\ds.length<1000000/\kE K mg md P R D H F b (.nx (ρ.set i (some (.lst (ds++[d])))) a):=by
 unfold cO at k;split at k
 ·rename_i d a e;split at k
  ·rename_i ds f;split at k
   ·rename_i c;exact⟨d,a,ds,e,f,c,k⟩
   ·exact False.elim k
  ·exact False.elim k
 ·exact False.elim k
 ·exact False.elim k
theorem jN(i:Nat){x:Str}{p apos b l:Pos}{e:Expr}{m:M D}(h:VE X md P e m)(L:md[i]?=some .o:=by rfl)(hN:X.N[i]?=some x:=by rfl)(hv:Vis X.env.scope x:=by first | exact Or.inl rfl | exact Or.inr (Or.inl rfl) | exact Or.inr (Or.inr rfl))
  (hd:(x == ("__debug__":Str))=false:=by decide) (B:(x == ("__classdict__":Str))=false:=by decide)
  (g:attributeBase (.Name x p) "append" X.env (eval (.Name x p) X.env)=eval (.Name x p) X.env:=by rfl)
  (n:((backTo b (starEach [e] X.env)).all (λx=>!x.1)&&(backToKw b (keywordEach [] X.env)).all (λx=>x.1.isSome)&&decide ([e].length+([]:List Keyword).length+(if([]:List Keyword).isEmpty then 0 else 1)<30))=true:=by rfl)
  (f:(apos.endLine == b.line)=true:=by rfl) (J:starEach [e] X.env=(false,eval e X.env)::starEach [] X.env:=by exact cV rfl) (c:(backTo b (starEach [] X.env)).any (·.1)=false:=by exact dW rfl)
  (u:swapsWith (.Call (.Attribute (.Name x p) "append" apos) [e] [] b) none l.line X.env=pure false:=by rfl):
  VS X md P R (.Expr (.Call (.Attribute (.Name x p) "append" apos) [e] [] b) l) (cO i m):=
 (t7 (uf PySem.F.plainAttrs_list PySem.F.slot_list_append PySem.F.type_list_append Um (lM (i:=i) hN hv hd B) (gW h jz J) g n f J c) u).imp λD σ H q=>by
  obtain⟨ρ,O,F,as,r,s,k⟩:=q;obtain⟨d,O',ds,e,U,hz,k⟩:=WR X.K X.mg k;obtain⟨a,E,h1,h2,h3,h4,T,Q⟩:=s.own L U;refine⟨_,h1,.inl ⟨rfl,E,.inl (.inl h2)⟩,ρ,O,F,as,d,O',r,s,e,λy H1 W C j Z hy=>?_⟩;have Y:=s.step j
  have hn:H a≠none:=by rw[h2];exact λz=>nomatch z
  have t:=j.fr _ _ h2 h4 rfl
  have I:W a=none:=by rw[j.fz a _ h2 h4 rfl];exact h3
  have G:=j.out h4 hn
  have hn1:H1 a≠none:=by rw[t];exact λz=>nomatch z
  exact⟨a,E,y,rfl,rfl,t,by rw[Q.length];exact zF hz (by decide),k σ _ W C (j.toS.trans (yq t T)) (Z.mut I G) (Y.mut L U h1 I G T ((Q.gr j).snoc hy))⟩
def WT(K:Frag):V->List V->Hp->VK->Prop:=λx d H Q=>∃l b c a,x=.ref l/\d=[.ref b]/\H l=some (.lst c)/\RdK K H b a/\c.length+a.length<=sizeLine/\Q .non (upd H l (.lst (c++a)))
theorem WW:MtM X "list.extend" (WT X.K):=by
 intro pins s σ H x J v L Q I j rv h;obtain⟨l,b,G,C,rfl,rfl,i,t,O,q⟩:=h;cases j;obtain⟨u,rfl,k⟩:=rv.one;cases k;obtain⟨z,c,n,r,T,e⟩:=I.lstM i;obtain⟨E,a,m,g,y⟩:=t.ok I;have B:=g.length
 have f:c.toArray.size+a.toArray.size<=sizeLine:=by rw[zy,zy];omega
 have d:¬(!c.toArray.isEmpty&&Builtin.List.listTooLong (c.toArray.size+a.toArray.size))=true:=by
  rw[Hr f,Bool.and_false];exact zf
 refine call_meets F.slot_list_extend ⟨_,e,rfl⟩ F.entry_list_extend (F.args_list_extend_2 _ _)
  (AutoSeq1.list_extend_list_list_0 l c.toArray n b a.toArray m d (by rw[zy];omega) (by omega)) ⟨e,y,?_⟩
 refine⟨.non,_,I.lset (its':=c++a) i e (by simp) (r.append g) ?_,rfl,q⟩;rw[zu];omega
def lz(i:Nat)(m:M D):MS:=λρ O=>match m ρ O with
 | .ok d O'=>match ρ[i]?,bK O' d with
  |some (some (.lst ds)),.lst es=>if ds.length+es.length<=1000000 then .nx (ρ.set i (some (.lst (ds++es)))) O' else .no
  | _,_=>.no
 | .ex x O'=>.ex x O'
 | .no=>.no
theorem WX{i:Nat}{m:M D}{ρ:aA}{O:aq}(K:Frag)(mg:Str->Option Value){D:Ends}{H F:Hp}{b:List Addr}(k:kE K mg md P R D H F b (lz i m ρ O)):
  ∃d a ds es,m ρ O=.ok d a/\ρ[i]?=some (some (.lst ds))/\bK a d=.lst es/\ds.length+es.length<=1000000/\kE K mg md P R D H F b (.nx (ρ.set i (some (.lst (ds++es)))) a):=by
 unfold lz at k;split at k
 ·rename_i d a e;split at k
  ·rename_i ds es g f;split at k
   ·rename_i c;exact⟨d,a,ds,es,e,g,f,c,k⟩
   ·exact False.elim k
  ·exact False.elim k
 ·exact False.elim k
 ·exact False.elim k
theorem WY(i:Nat){x:Str}{p apos c n:Pos}{e:Expr}{m:M D}(h:SE X md P e m)(W:md[i]?=some .o:=by rfl)(hN:X.N[i]?=some x:=by rfl)(hv:Vis X.env.scope x:=by first | exact Or.inl rfl | exact Or.inr (Or.inl rfl) | exact Or.inr (Or.inr rfl))
  (hd:(x == ("__debug__":Str))=false:=by decide) (E:(x == ("__classdict__":Str))=false:=by decide)
  (j:attributeBase (.Name x p) "extend" X.env (eval (.Name x p) X.env)=eval (.Name x p) X.env:=by rfl)
  (t:((backTo c (starEach [e] X.env)).all (λx=>!x.1)&&(backToKw c (keywordEach [] X.env)).all (λx=>x.1.isSome)&&decide ([e].length+([]:List Keyword).length+(if([]:List Keyword).isEmpty then 0 else 1)<30))=true:=by rfl)
  (g:(apos.endLine == c.line)=true:=by rfl) (U:starEach [e] X.env=(false,eval e X.env)::starEach [] X.env:=by exact cV rfl) (f:(backTo c (starEach [] X.env)).any (·.1)=false:=by exact dW rfl)
  (C:swapsWith (.Call (.Attribute (.Name x p) "extend" apos) [e] [] c) none n.line X.env=pure false:=by rfl):
  VS X md P R (.Expr (.Call (.Attribute (.Name x p) "extend" apos) [e] [] c) n) (lz i m):=
 (t7 (uf PySem.F.plainAttrs_list PySem.F.slot_list_extend PySem.F.type_list_extend WW (lM (i:=i) hN hv hd E) (gW h jz U) j t g U f) C).imp λD σ H q=>by
  obtain⟨ρ,O,F,as,r,s,k⟩:=q;obtain⟨d,O',ds,es,e,e2,e3,hz,k⟩:=WX X.K X.mg k;obtain⟨a,I,h1,h2,h3,h4,Z,Y⟩:=s.own W e2;refine⟨_,h1,.inl ⟨rfl,I,.inl (.inl h2)⟩,ρ,O,F,as,d,O',r,s,e,λy H1 F1 G l u hy=>?_⟩;have s1:=s.step l
  have hn:H a≠none:=by rw[h2];exact λz=>nomatch z
  have B:=l.fr _ _ h2 h4 rfl
  have Q:F1 a=none:=by rw[l.fz a _ h2 h4 rfl];exact h3
  have L:=l.out h4 hn
  have hn1:H1 a≠none:=by rw[B];exact λz=>nomatch z
  have T:=Sv.lk hy u;rw[e3] at T;obtain⟨b,zs,rfl,w1,J⟩:=T.list u.fh;exact⟨a,b,I,zs,rfl,rfl,B,w1,by rw[Y.length,J.length];exact g8 hz,k σ _ F1 G (l.toS.trans (yq B Z)) (u.mut Q L) (s1.mut W e2 h1 Q L Z (Rps.append J (Y.gr l)))⟩
def uD(i:Nat):MS:=λρ O=>match ρ[i]? with
 |some (some (.lst _))=>.nx (ρ.set i (some (.lst []))) O
 | _=>.no
theorem W0(i:Nat){x:Str}{p apos b f:Pos}(l:md[i]?=some .o:=by rfl)(hN:X.N[i]?=some x:=by rfl)(t:Vis X.env.scope x:=by first | exact Or.inl rfl | exact Or.inr (Or.inl rfl) | exact Or.inr (Or.inr rfl))
  (hd:(x == ("__debug__":Str))=false:=by decide) (h:(x == ("__classdict__":Str))=false:=by decide)
  (d:attributeBase (.Name x p) "clear" X.env (eval (.Name x p) X.env)=eval (.Name x p) X.env:=by rfl) (c:(apos.endLine == b.line)=true:=by rfl)
  (g:swapsWith (.Call (.Attribute (.Name x p) "clear" apos) [] [] b) none f.line X.env=pure false:=by rfl):
  VS X md P R (.Expr (.Call (.Attribute (.Name x p) "clear" apos) [] [] b) f) (uD i):=
 (t7 (Uk PySem.F.plainAttrs_list PySem.F.slot_list_clear PySem.F.type_list_clear Up (lM (i:=i) hN t hd h) d c) g).imp λD σ H q=>by
  obtain⟨ρ,O,F,u,r,s,k⟩:=q;unfold uD at k;split at k
  ·rename_i C n;obtain⟨a,j,h1,h2,h3,h4,m,B⟩:=s.own l n
   have y:H a≠none:=by rw[h2];exact λz=>nomatch z
   exact⟨_,h1,.inl ⟨rfl,j,.inl (.inl h2)⟩,a,j,rfl,rfl,h2,k σ _ F u (yq h2 m) (r.mut h3 h4) (s.mut l n h1 h3 h4 m Rps.nil)⟩
  ·exact False.elim k
end
def putD(f:Str)(v:D):List (Str×D)->List (Str×D)
 | []=>[(f,v)]
 | (g,x)::r=>if g=f then(g,v)::r else(g,x)::putD f v r
section
variable {K:Frag}{F:Hp}{as:List Addr}
theorem FsR.cons_inv{gs:List (Str×V)}{f:Str}{d:D}{fs:List (Str×D)}(h:FsR K F as gs ((f,d)::fs)):∃v a,gs=(f,v)::a/\Rp K F as v d/\FsR K F as a fs:=by
 obtain⟨h1,h2⟩:=h
 cases gs with
 |nil=>cases h1
 |cons g a =>
  obtain⟨c,b⟩:=g;simp only[zh,List.cons.injEq] at h1;obtain⟨x,r,e,h3,h4⟩:=h2.un;simp only[zh,List.cons.injEq] at e;obtain⟨rfl,rfl⟩:=e;exact⟨b,a,by rw[h1.1],h3,⟨h1.2,h4⟩⟩
theorem FsR.nil_inv{gs:List (Str×V)}(h:FsR K F as gs []):gs=[]:=List.map_eq_nil_iff.mp h.nm
theorem FsR.get:∀{fs:List (Str×D)}{gs:List (Str×V)}{f:Str}{d:D},FsR K F as gs fs->fs.lookup f=some d->∃v,gs.lookup f=some v/\Rp K F as v d
 | [],_,_,_,_,e=>by cases e
 | (g,x)::fs,gs,f,d,h,e=>by
  obtain⟨v,a,rfl,h1,h2⟩:=h.cons_inv;rw[List.lookup_cons] at e ⊢
  cases q:f == g with
  |true =>
   rw[q] at e;cases e;exact⟨v,rfl,h1⟩
  |false =>
   rw[q] at e;exact FsR.get h2 e
theorem FsR.no:∀{fs:List (Str×D)}{gs:List (Str×V)}{f:Str},FsR K F as gs fs->fs.lookup f=none->gs.lookup f=none
 | [],_,_,h,e=>by rw[h.nil_inv];rfl
 | (g,x)::fs,gs,f,h,e=>by
  obtain⟨v,a,rfl,h1,h2⟩:=h.cons_inv;rw[List.lookup_cons] at e ⊢
  cases q:f == g with
  |true=>rw[q] at e;cases e
  |false =>
   rw[q] at e;exact FsR.no h2 e
theorem FsR.put{f:Str}{v:V}{d:D}(hv:Rp K F as v d):∀{fs:List (Str×D)}{gs:List (Str×V)},FsR K F as gs fs->FsR K F as (d8 f v gs) (putD f d fs)
 | [],_,h=>by
  rw[h.nil_inv];exact⟨rfl,Rps.cons hv Rps.nil⟩
 | (g,x)::fs,gs,h=>by
  obtain⟨u,b,rfl,h1,h2⟩:=h.cons_inv;rw[d8,putD]
  by_cases q:g=f
  ·rw[if_pos q,if_pos q];exact⟨by simp[h2.nm],Rps.cons hv h2.vl⟩
  ·rw[if_neg q,if_neg q];have a:=FsR.put (f:=f) hv h2;exact⟨by simp[a.nm],Rps.cons h1 a.vl⟩
theorem FsR.length{fs:List (Str×D)}{gs:List (Str×V)}(h:FsR K F as gs fs):gs.length=fs.length:=by
 have:=congrArg List.length h.nm
 simpa using this
theorem RlO.set{mg:Str->Option Value}{O:aq}{H:Hp}{n:Nat}{a:Addr}{o:Ob}{u:HO}(r:RlO K mg O H F as)(f:as[n]?=some a)(j:ObR K mg (upd H a u) F as a o):RlO K mg (O.set n o) (upd H a u) F as:=by
 have l:=r.fa a (zH f);refine⟨λc w e=>?_,r.fd,r.nd,by rw[jf];exact r.len,r.fa,λk c w d b=>?_⟩
 ·rw[aQ (cI e l)];exact r.fh c w e
 ·by_cases h:n=k
  ·subst h;rw[f] at d;cases d;rw[zM (by rw[<-r.len];exact(zq.mp f).1)] at b;cases b;exact j
  ·rw[zv h] at b
   refine(r.ob k c w d b).keep (aQ ?_) (Same.refl F) λ_ _ h=>h
   intro z;subst z;obtain⟨q,i⟩:=zq.mp f;obtain⟨m,g⟩:=zq.mp d;exact h ((List.getElem_inj r.nd).mp (i.trans g.symm))
end
def KC(K:Frag)(mg:Str->Option Value)(c f:Str):Prop:=∃C,mg c=some (.ref C)/\Cls K C/\mY K C f
section
variable {X:Cx}{md:List Md}{P:Pt}{R:RR}
def dz(b:List Str)(f:Str)(m:M D):M D:=λρ O=>(m ρ O).bind λd a=>match d with
 | .ob n=>match a[n]? with
  |some (.ins c fs)=>if c∈b then match fs.lookup f with
   |some y=>.ok y a
   |none=>.no else .no
  | _=>.no
 | _=>.no
theorem gO{l:List Str}{f:Str}{o:Expr}{b:Pos}{m:M D}(u:∀c∈l,KC X.K X.mg c f)(h:VE X md P o m)(hb:attributeBase o f X.env (eval o X.env)=eval o X.env:=by rfl):VE X md P (.Attribute o f b) (dz l f m):=(S7 h hb).imp λσ H Q q=>by
 obtain⟨ρ,O,F,Z,d,O',r,s,e,k⟩:=q;obtain⟨x,O1,W,e⟩:=Res.bind_ok e
 cases x with
 |ob n =>
  dsimp only at e;split at e
  ·rename_i c fs U;split at e
   ·rename_i g;split at e
    ·rename_i y T;cases e;refine⟨ρ,_,F,Z,_,_,r,s,W,λv H1 F1 i L j t=>?_⟩;obtain⟨a,rfl,B⟩:=Rp.unO t;obtain⟨C,Y,gs,h1,h2,h3⟩:=j.ob n a _ B U;obtain⟨C',h4,J,I⟩:=u c g;rw[h1] at h4;cases h4;obtain⟨w,G,E⟩:=h3.get T;exact⟨a,C,Y,gs,w,rfl,h2,J,I,G,k w H1 F1 i L j E⟩
    ·cases e
   ·cases e
  ·cases e
 | _=>cases e
def fM(g:List Str)(f:Str)(b a:M D):MS:=λρ O=>match a ρ O with
 | .ok d O1=>match b ρ O1 with
  | .ok (.ob n) O2=>match O2[n]? with
   |some (.ins c fs)=>if c∈g/\fs.length<900 then .nx ρ (O2.set n (.ins c (putD f d fs))) else .no
   | _=>.no
  | _=>.no
 | .ex x O'=>.ex x O'
 | .no=>.no
theorem jO{W:List Str}{f:Str}{o value:Expr}{j pos':Pos}{L J:M D}(hc:∀c∈W,KC X.K X.mg c f)(ho:VE X md P o L)(hv:VE X md P value J)(hs:swapsWith value (some (.Attribute o f pos')) j.line X.env=pure false:=by rfl):VS X md P R (.Assign [.Attribute o f pos'] value j) (fM W f L J):=(S8 ho hv hs).imp λD σ H q=>by
 obtain⟨ρ,O,F,as,r,s,k⟩:=q;unfold fM at k;split at k
 ·rename_i d Y e1;split at k
  ·rename_i n O2 e2;split at k
   ·rename_i c fs eo;split at k
    ·rename_i E;refine⟨ρ,O,F,as,d,Y,r,s,e1,λy H1 F1 G U Z hy=>?_⟩;refine⟨ρ,Y,F1,G,.ob n,O2,Z,s.step U,e2,λz x B i T I hz=>?_⟩;have g:=U.trans T;obtain⟨a,rfl,m⟩:=Rp.unO hz;obtain⟨C,t,gs,h1,h2,h3⟩:=I.ob n a _ m eo;obtain⟨C',h4,h5,h6⟩:=hc c E.1;rw[h1] at h4;cases h4;have l:=zH m
     have hn:x a≠none:=by rw[h2];exact λz=>nomatch z
     have Q:Gr x B i (upd x a (.ins C t (d8 f y gs))) B i:=⟨λ_ _ _ _ _=>rfl,Same.refl _,⟨[],by simp,λ_ h=>nomatch h⟩,λb u e hb _=>by rw[aQ (λz=>hb (by rw[z];exact l))];exact e,λb e=>by
      by_cases h:b=a
      ·subst h;rw[cg] at e;cases e
      ·rwa [aQ h] at e,λb o' u e=>by rw[aQ (λz=>by rw[z,h2] at e;cases e)];exact e⟩
     refine⟨a,C,t,gs,rfl,h2,h5,h6,by rw[h3.length];omega,?_⟩;exact k σ _ B i (g.trans Q).toS (I.set m ⟨C,t,_,h1,cg,h3.put (Rp.gr hy T)⟩) ((s.step g).step Q)
    ·exact False.elim k
   ·exact False.elim k
  ·exact False.elim k
 ·exact False.elim k
 ·exact False.elim k
end
section
variable {Pr:Program}{w:World}{K:Frag}{mg:Str->Option Value}{base:Heap}
theorem Jl{x qual:Str}{st:Stmt}{f:Addr}{fd:FuncData}{N ps:List Str}{k:Nat}(Z:Fun K x qual st f fd)(S:bH N ps (aY st))
  (pm G:List Md) {R:RR}{b:MS} (X:gf R) (C:∀N H F l,R N H F l .non .non) (B:pm.length=ps.length) (U:(pm++G).length=N.length) (T:∀m∈pm,m≠.o)
  (body:∀(i:Value) (A:Around) (outer:List Env) (s:Shared) (H:Hp) (E:XK),bC k (A.deeper (envOfC qual (aY st) s.heap.objs.size f i))->∀P,VSs ((iG CX0 Pr w K mg base N qual (aY st) f i A outer s H E).nox) (pm++G) P R (eO st) b):
  dq Pr w K mg base CX0 (k+1) f fd ps (vSp K mg pm R (bI N.length b)):=by
 refine Z.ok S (λI H Q E h=>?_) (λi A outer s H I Q E L h=>?_)
 ·obtain⟨t,O,F,l,d,Y,r,a,_⟩:=h;rw[a.len.1,B]
 ·obtain⟨t,O,F,l,d,Y,r,a,e,q⟩:=h;refine⟨_,body i A outer s H E L (Pt.all H),?_⟩;refine⟨_,O,F,l,r,Iu a U T,?_⟩;unfold bI at e
  cases eb:b (t.map some++List.replicate (N.length - t.length) none) O with
  |rt d' O2 =>
   rw[eb] at e;cases e
   exact λv u y j g n J=>q v u y j g.gr n (X _ _ _ _ _ _ _ (λc W=>Classical.not_not.mp W) J)
  |nx ρ O2 =>
   rw[eb] at e;cases e
   exact λσ' u y j g n _=>q _ u y j g.gr n (C _ _ _ _)
  |bk _ _=>rw[eb] at e;cases e
  |ct _ _=>rw[eb] at e;cases e
  |ex _ _=>rw[eb] at e;cases e
  |no=>rw[eb] at e;cases e
def jP(K:Frag)(mg:Str->Option Value)(c m qual:Str)(st:Stmt):Prop:=∃C f fd,mg c=some (.ref C)/\Cls K C/\qI K C m f/\Fun K m qual st f fd
def fO(P:Program)(w:World)(K:Frag)(mg:Str->Option Value)(base:Heap)(c m:Str)(ps:List Str)(k:Nat)(sp:Sp):Prop :=
 ∃C f fd,mg c=some (.ref C)/\Cls K C/\qI K C m f/\Binds K fd ps []/\dq P w K mg base CX0 k f fd ps sp
def rF(P:Program)(w:World)(K:Frag)(mg:Str->Option Value)(base:Heap)(c:Str)(ps:List Str)(k:Nat)(sp:Sp):Prop :=
 ∃C f fd,mg c=some (.ref C)/\Mk K C f/\Binds K fd ps []/\dq P w K mg base CX0 k f fd ps sp
def uE(K:Frag)(mg:Str->Option Value)(c qual:Str)(st:Stmt):Prop:=∃C f fd,mg c=some (.ref C)/\Mk K C f/\Fun K "__init__" qual st f fd
theorem lY{c x qual:Str}{st:Stmt}{N ps:List Str}{k:Nat}(t:jP K mg c x qual st)(S:bH N ps (aY st))
  (hb:∀(kV i pm:Value) (r:Option Addr) (a ct:Value) (us:List Value),us.length=ps.length->bindArgs (PySem.W.fnOf x qual (gY st) (eO st) (aY st) .none kV i pm r a ct) ⟨us,[]⟩=pure (ps.zip us))
  (pm d:List Md) {R:RR}{b:MS} (n:gf R) (h:∀N H F q,R N H F q .non .non) (g:pm.length=ps.length:=by rfl) (l:(pm++d).length=N.length:=by rfl) (j:∀m∈pm,m≠.o:=by decide)
  (body:∀(f:Addr) (a:Value) (A:Around) (outer:List Env) (s:Shared) (H:Hp) (E:XK),bC k (A.deeper (envOfC qual (aY st) s.heap.objs.size f a))->∀P,VSs ((iG CX0 Pr w K mg base N qual (aY st) f a A outer s H E).nox) (pm++d) P R (eO st) b):
  fO Pr w K mg base c x ps (k+1) (vSp K mg pm R (bI N.length b)):=by
 obtain⟨C,f,fd,h1,h2,h3,h4⟩:=t;exact⟨C,f,fd,h1,h2,h3,h4.binds hb,Jl h4 S pm d n h g l j (body f)⟩
theorem Jm{c qual:Str}{st:Stmt}{N ps:List Str}{k:Nat}(t:uE K mg c qual st)(S:bH N ps (aY st))
  (hb:∀(kV i pm:Value) (r:Option Addr) (a ct:Value) (us:List Value),us.length=ps.length->bindArgs (PySem.W.fnOf "__init__" qual (gY st) (eO st) (aY st) .none kV i pm r a ct) ⟨us,[]⟩=pure (ps.zip us))
  (pm d:List Md) {R:RR}{b:MS} (n:gf R) (h:∀N H F q,R N H F q .non .non) (g:pm.length=ps.length:=by rfl) (l:(pm++d).length=N.length:=by rfl) (j:∀m∈pm,m≠.o:=by decide)
  (body:∀(f:Addr) (a:Value) (A:Around) (outer:List Env) (s:Shared) (H:Hp) (E:XK),bC k (A.deeper (envOfC qual (aY st) s.heap.objs.size f a))->∀P,VSs ((iG CX0 Pr w K mg base N qual (aY st) f a A outer s H E).nox) (pm++d) P R (eO st) b):
  rF Pr w K mg base c ps (k+1) (vSp K mg pm R (bI N.length b)):=by
 obtain⟨C,f,fd,h1,h2,h4⟩:=t;exact⟨C,f,fd,h1,h2,h4.binds hb,Jl h4 S pm d n h g l j (body f)⟩
end
section
variable {X:Cx}{md:List Md}{P:Pt}{R:RR}{k:Nat}{c m:Str}{ps:List Str}{p pos apos:Pos}{o e:Expr}{es:List Expr}{pm:List Md}{cf:List D->aq->Res D}{mo:M D}{ma:M (List D)}
def bQ(c m:Str)(cf:List D->aq->Res D)(mo:M D)(ma:M (List D)):M D:=λρ O=>(mo ρ O).bind λd a=>match d with
 | .ob n=>match a[n]? with
  |some (.ins c' fs)=>if c'=c/\(fs.lookup m).isNone=true then(ma ρ a).bind λb f=>cf (.ob n::b) f else .no
  | _=>.no
 | _=>.no
theorem Jo{K:Frag}{mg:Str->Option Value}{C:Addr}(Z:gf R)(hC:mg c=some (.ref C)){E:XK}{σ:St}{H:Hp}{Q:VK}(q:tM K mg md P R (bQ c m cf mo ma) σ H Q):
  xn C m (vSp K mg (.v::pm) R cf) [] E (tM K mg md P (rV K) mo) (tMA K mg md P pm ma) σ H Q:=by
 obtain⟨ρ,O,F,as,d,O',r,s,e,k⟩:=q;obtain⟨x,I,e1,e⟩:=Res.bind_ok e
 cases x with
 |ob n =>
  dsimp only at e;split at e
  ·rename_i c' fs eo;split at e
   ·rename_i y;obtain⟨B,G,e2,e⟩:=Res.bind_ok e;refine⟨ρ,O,F,as,.ob n,I,r,s,e1,λv H1 F1 j g t u=>?_⟩;obtain⟨a,rfl,Y⟩:=Rp.unO u;obtain⟨C',dx,gs,h1,h2,h3⟩:=t.ob n a _ Y eo;rw[y.1,hC] at h1;cases h1;refine⟨a,dx,gs,rfl,h2,h3.no (Option.isNone_iff_eq_none.mp y.2),?_⟩;refine⟨ρ,I,F1,j,B,G,t,s.step g,e2,λvs H2 F2 i f L h=>?_⟩;dsimp only;rw[zU];exact⟨.ob n::B,G,F2,i,d,O',L,⟨Rp.gr u f,h⟩,e,λJ H' F' l g' T U=>k J H' F' l ((g.trans f).trans g') T (Z _ _ _ _ _ _ _ (λb W=>(g.trans f).dm b W) U)⟩
   ·cases e
  ·cases e
 | _=>cases e
theorem Jp{pl:Sem Bool}(j:gf R)(M:fO X.prog X.w X.K X.mg X.base c m ps k (vSp X.K X.mg (.v::pm) R cf))(g:bC k X.A)(h:VE X md P o mo)(i:AE X md P pm (e::es) ma)
  (a:starEach (e::es) X.env=(false,eval e X.env)::starEach es X.env:=by exact cV rfl) (b:(backTo pos (starEach es X.env)).any (·.1)=false:=by exact dW rfl)
  (d:eval (.Call (.Attribute o m apos) (e::es) [] pos) X.env=(do
   let ov <-eval o X.env
   standAt apos.atName
   let (f,first) <-holding [ov] (getMethod ov m pl)
   callWith pos f first (backTo pos (starEach (e::es) X.env)) (backToKw pos (keywordEach [] X.env))):=by rfl):
  PE X (.Call (.Attribute o m apos) (e::es) [] pos) (tM X.K X.mg md P R (bQ c m cf mo ma)):=by
 obtain⟨C,f,fd,h1,h2,h3,h4,l⟩:=M
 exact(Tn (pl:=pl) (E:=E0) (ds:=[]) (dvs:=[]) h h2 h3 l g h4 .nil oK i a b d).imp λ_ _ _ q=>Jo j h1 q
theorem Jq{pl:Sem Bool}(G:gf R)(M:fO X.prog X.w X.K X.mg X.base c m ps k (vSp X.K X.mg [.v] R cf))(y:bC k X.A)(B:VE X md P o mo)
  (x:eval (.Call (.Attribute o m apos) [] [] pos) X.env=(do
   let ov <-eval o X.env
   standAt apos.atName
   let (f,first) <-holding [ov] (getMethod ov m pl)
   callWith pos f first (backTo pos (starEach [] X.env)) (backToKw pos (keywordEach [] X.env))):=by rfl):
  PE X (.Call (.Attribute o m apos) [] [] pos) (tM X.K X.mg md P R (bQ c m cf mo au)):=by
 obtain⟨C,f,fd,h1,h2,h3,h4,I⟩:=M
 refine(Tp (pl:=pl) (E:=E0) (ds:=[]) (dvs:=[]) B h2 h3 I y h4 .nil oK x).imp λσ H Q q=>?_
 obtain⟨ρ,O,F,Y,d,Z,r,s,e,k⟩:=Jo (pm:=[]) (E:=E0) G h1 q;refine⟨ρ,O,F,Y,d,Z,r,s,e,λv i F' h g l u=>?_⟩;obtain⟨a,W,fs,U,T,L,t⟩:=k v i F' h g l u;refine⟨a,W,fs,U,T,L,?_⟩;obtain⟨ρ1,O1,F1,b,ds1,O2,j,s1,J,n⟩:=t;cases J;exact n [] i F1 b Gr.refl j trivial
def jQ(c:Str)(cf:List D->aq->Res D)(ma:M (List D)):M D:=λρ O=>(ma ρ O).bind λb a=>match cf (.ob a.length::b) (a++[.ins c []]) with
 | .ok .non O2=>.ok (.ob a.length) O2
 | .ok _ _=>.no
 | .ex x O2=>.ex x O2
 | .no=>.no
theorem Jr{K:Frag}{mg:Str->Option Value}{C:Addr}(hC:mg c=some (.ref C)){E:XK}{σ:St}{H:Hp}{Q:VK}(q:tM K mg md P (rV K) (jQ c cf ma) σ H Q):
  xq C (vSp K mg (.v::pm) (rV K) cf) [] E (tMA K mg md P pm ma) σ H Q:=by
 obtain⟨ρ,O,F,as,d,O',r,s,e,k⟩:=q;obtain⟨ds,y,e1,e⟩:=Res.bind_ok e;split at e
 ·rename_i O2 ec;cases e;refine⟨ρ,O,F,as,ds,y,r,s,e1,λvs t j f g1 u U=>?_⟩;intro x g L J W;rw[zU]
  have G:upd t g (.own x) x=none:=by rw[aQ W.symm];exact L
  have gA:Gr t j f (upd t g (.own x)) j f:=Gr.lay J;have gB:Gr (upd t g (.own x)) j f (upd (upd t g (.own x)) x (.ins C g [])) j f:=Gr.lay G;have gC:Gr (upd (upd t g (.own x)) x (.ins C g [])) j f (upd (upd t g (.own x)) x (.ins C g [])) j f:=Gr.refl;have l:=gA.trans gB;have g2:Gr t j f (upd (upd t g (.own x)) x (.ins C g [])) j (f++[x]):=⟨l.fz,l.ff,⟨[x],rfl,λa i=>by rw[zt.mp i];exact L⟩,λa o e i hd=>l.fr a o e i hd,l.dm,l.kz⟩
  have nx:x∉f:=λz=>u.all z L
  have T:=(u.lay (o:=.own x) J).lay (o:=.ins C g []) G
  have at_:∀(n:Nat) (a:Addr),f[n]?=some a->(f++[x])[n]?=some a:=λn a h=>by
   rw[zC (zq.mp h).1];exact h
  have r2:RlO K mg (y++[.ins c []]) (upd (upd t g (.own x)) x (.ins C g [])) j (f++[x]):=by
   refine⟨T.fh,T.fd,?_,by simp[u.len],λa i=>?_,λn a o i B=>?_⟩
   ·rw[jj];refine⟨u.nd,by simp,λa i b hb=>?_⟩;rw[zt.mp hb];intro z;subst z;exact nx i
   ·rcases zE.mp i with z | z
    ·exact u.fa a z
    ·rw[zt.mp z];exact u.frF L
   ·by_cases Z:n<y.length
    ·rw[zC (by rw[u.len];exact Z)] at i;rw[zC Z] at B;exact(T.ob n a o i B).keep rfl (Same.refl _) at_
    ·have hn':n=y.length:=by
      have:=(zq.mp B).1
      simp at this
      omega
     subst hn';rw[zK (zc _),Nat.sub_self] at B;rw[<-u.len,zK (zc _),Nat.sub_self] at i;cases B;cases i;exact⟨C,g,[],hC,cg,⟨rfl,Rps.nil⟩⟩
  have I:Rp K j (f++[x]) (.ref x) (.ob y.length):=Rp.mkO (by rw[<-u.len,zK (zc _),Nat.sub_self];rfl);refine⟨.ob y.length::ds,_,j,f++[x],.non,_,r2,⟨I,U.gr g2⟩,ec,λv H3 F3 Y g3 r3 hv=>?_⟩;exact⟨Rp.unN hv,k _ H3 F3 Y ((g1.trans g2).trans g3) r3 (Rp.gr I g3)⟩
 ·cases e
 ·cases e
 ·cases e
theorem W2(M:rF X.prog X.w X.K X.mg X.base c ps k (vSp X.K X.mg (.v::pm) (rV X.K) cf))(d:bC (k+1) X.A)(i:AE X md P pm (e::es) ma)(g:Gl X c:=by rfl)(b:(c == ("__debug__":Str))=false:=by decide)
  (h:starEach (e::es) X.env=(false,eval e X.env)::starEach es X.env:=by exact cV rfl) (a:(backTo pos (starEach es X.env)).any (·.1)=false:=by exact dW rfl):VE X md P (.Call (.Name c p) (e::es) [] pos) (jQ c cf ma):=by
 obtain⟨C,f,fd,h1,h3,h4,j⟩:=M
 exact(Tq (E:=E0) (ds:=[]) (dvs:=[]) h3 j d g h1 h4 .nil oK i b h a).imp λ_ _ _ q=>Jr h1 q
theorem W3(M:rF X.prog X.w X.K X.mg X.base c ps k (vSp X.K X.mg [.v] (rV X.K) cf))(b:bC (k+1) X.A)(d:Gl X c:=by rfl)(a:(c == ("__debug__":Str))=false:=by decide):VE X md P (.Call (.Name c p) [] [] pos) (jQ c cf au):=by
 obtain⟨C,f,fd,h1,h3,h4,g⟩:=M
 refine(Tr (E:=E0) (ds:=[]) (dvs:=[]) h3 g b d h1 h4 .nil oK a).imp λσ H Q q=>?_
 obtain⟨ρ,O,F,h,ds,i,r,s,e,k⟩:=Jr (pm:=[]) (E:=E0) h1 q;cases e;exact k [] H F h Gr.refl r trivial
end
section
variable {X:Cx}{md:List Md}{P:Pt}{R:RR}
def nu:D->Option (List D)
 | .lst ds=>some ds
 | .tup ds=>some ds
 | .str l=>if ascii l=true then some (cZ l) else none
 | _=>none
def cR(m:M D):M (List D):=λρ O=>(m ρ O).bind λd b=>match nu d with
 |some a=>.ok a b
 |none=>.no
theorem yr{e:Expr}{m:M D}(h:WE X md P e m):SE X md P e m:=h.imp λσ H Q q=>by
 obtain⟨ρ,O,F,y,d,B,r,s,e,k⟩:=q;refine⟨ρ,O,F,y,d,B,r,s,e,λv C E c g i b=>k v C E c g i ?_⟩
 rcases b with b | ⟨a,f,x,u,t,n,l,G,j⟩
 ·exact .inl b
 ·exact .inr ⟨a,f,x,u,t,n,l,j⟩
theorem nA{g e:Expr}{m:M D}(h:WE X md P e m):VI X md P g e (cR m):=λpins s σ H Q I q=>by
 obtain⟨ρ,O,F,c,j,t,r,sl,e,k⟩:=q;obtain⟨d,n,b,e⟩:=Res.bind_ok e
 cases d with
 |lst f =>
  cases e;exact WK h pins s σ H Q I ⟨ρ,O,F,c,_,_,r,sl,by unfold uy;rw[b];rfl,k⟩
 |tup f =>
  cases e;exact Jg (cP (yr h)) pins s σ H Q I ⟨ρ,O,F,c,_,_,r,sl,by unfold yh mG;rw[b];rfl,k⟩
 |str l =>
  simp only[nu] at e;split at e
  ·rename_i f a;split at a
   ·rename_i i;cases a;cases e;refine Jh (yr h) pins s σ H Q I ⟨ρ,O,F,c,cZ l,_,r,sl,?_,k⟩;unfold yj;rw[b];show(if ascii l=true then _ else _)=_;rw[if_pos i]
   ·cases a
  ·cases e
 | _=>cases e
theorem W4{E e:Expr}{m:M D}(h:SE X md P e m):VIc X md P E e (uy m):=(GK h).imp λσ H Q q=>by
 obtain⟨ρ,O,F,U,ds,Z,r,s,e,k⟩:=q;obtain⟨d,Y,T,e⟩:=Res.bind_ok e
 cases d with
 |lst es =>
  cases e;refine⟨ρ,_,F,U,_,_,r,s,T,λv B n l G C u=>?_⟩
  obtain⟨a,c,rfl,h1,h2⟩:∃a c,v=.ref a/\Rps X.K n l c ds/\∀(f j:Hp) (b:List Addr),Gr B n l f j b->(∃O,RlO X.K X.mg O f j b)->RdK X.K f a c:=by
   rcases u with u | ⟨a,c,W,rfl,e,L,J,I⟩
   ·obtain⟨a,c,rfl,h1,h2⟩:=u.unL;exact⟨a,c,rfl,h2,λf j b g ⟨O,r⟩=>(h1.mono g.ff).mono r.fh⟩
   ·cases e;exact⟨a,c,rfl,I,λf j b g _=>.inl (.inl (g.fr _ _ L J rfl))⟩
  refine⟨a,rfl,⟨c,(h2 B n l Gr.refl ⟨_,C⟩).sq⟩,k _ B n l G C ⟨λi d f j b g r e=>?_,λf j b g r=>⟨c,(h2 f j b g r).sq,by rw[h1.length];exact zc _⟩⟩⟩;obtain⟨x,h3,h4⟩:=h1.get' e;have q:=h2 f j b g r;refine⟨⟨c,x,q.sq,h3⟩,λy H3 t=>?_⟩;obtain⟨rfl,t⟩:=t
  have:=t c q.sq
  rw[h3] at this;cases this;exact⟨j,Gr.refl,λ_ r=>r,h4.gr g⟩
 | _=>cases e
theorem rG{g e:Expr}{m:M D}(h:SE X md P e m):VIc X md P g e (cR m):=λpins s σ H Q I q=>by
 obtain⟨ρ,O,F,c,j,t,r,sl,e,k⟩:=q;obtain⟨d,n,b,e⟩:=Res.bind_ok e
 cases d with
 |lst f =>
  cases e;exact W4 h pins s σ H Q I ⟨ρ,O,F,c,_,_,r,sl,by unfold uy;rw[b];rfl,k⟩
 |tup f =>
  cases e;exact ur (Jg (cP h)) pins s σ H Q I ⟨ρ,O,F,c,_,_,r,sl,by unfold yh mG;rw[b];rfl,k⟩
 |str l =>
  simp only[nu] at e;split at e
  ·rename_i f a;split at a
   ·rename_i i;cases a;cases e;refine ur (Jh h) pins s σ H Q I ⟨ρ,O,F,c,cZ l,_,r,sl,?_,k⟩;unfold yj;rw[b];show(if ascii l=true then _ else _)=_;rw[if_pos i]
   ·cases a
  ·cases e
 | _=>cases e
def uF(m:M D):M (List D):=λρ O=>(m ρ O).bind λd a=>match d with
 | .lst ds=>.ok (dR 0 ds) a
 | .str l=>if ascii l=true then .ok (dR 0 (cZ l)) a else .no
 | _=>.no
variable {elts:List Expr}{x1:Nat}{tpos:Pos}
theorem Js{a:Expr}{p c:Pos}{m:M D}(g:X.mg "enumerate" = none)(h:WE X md P a m)(i:Gl X "enumerate":=by rfl)(f:starEach [a] X.env=[(false,eval a X.env)]:=by exact oN rfl)(b:starEach [a] X.env=(false,eval a X.env)::starEach [] X.env:=by exact cV rfl):
  VI X md P (.Tuple elts x1 tpos) (.Call (.Name "enumerate" p) [a] [] c) (uF m):=λpins s σ H Q I q=>by
 obtain⟨ρ,O,F,n,t,u,r,sl,e,k⟩:=q;obtain⟨d,x,j,e⟩:=Res.bind_ok e
 cases d with
 |lst es =>
  cases e;exact WM g h i f b pins s σ H Q I ⟨ρ,O,F,n,_,_,r,sl,by unfold Ji;rw[j];rfl,k⟩
 |str l=>exact WN g (yr h) i f b pins s σ H Q I ⟨ρ,O,F,n,t,u,r,sl,by unfold Jj;rw[j];exact e,k⟩
 | _=>cases e
end
theorem W5{P:Program}{w:World}{K:PySem.W.Frag}{mg mb:Str->Option Value}{CX:CXT}{k:Nat}{fa a:Addr}{fd:FuncData}{x:Str}{sp:Sp}{c:Shared}{vs:List Value}{ns:List Int}
  (Z:K.In c.heap) (y:c.heap.Ns mainGlobals mg) (hb:c.heap.Ns builtinsNs mb) (O:∀x:Str,x≠"__name__"->mb x=bootBuiltins x) (G:c.heap.NoLimit) (hg:c.gens = #[])
  (I:c.heap.get? a=some {cls:=.type "list",data:=.seq vs.toArray}) (T:IntsAre vs ns) (R:ns.length<=sizeLine) (hr:bC k callerA)
  (F:∀base:Heap,K.In base->base.Ns mainGlobals mg->dq P w K mg base CX k fa fd [x] sp) (j:∀(s:Shared) (u:Value),BindsTo s fd ⟨[u],[]⟩ [(x,u)])
  (L:∀H:Hp,mZ H->RdK K H a (ns.map V.int)->sp [.ref a] H (λv _=>v=.bl true) λ_ _ _=>False)
  (Q:∀H e g,CX [] H c (λ_ _ _=>False) e g->False):
  codeAny (model P w) callerA (.call (.ref fa) ⟨[.ref a],[]⟩) (λr g=>r=.ok (.ret (.bool true))/\OldK c.heap g.heap/\g.os=c.os/\AllBare g.gens) c:=by
 have rv:=xD T;have C:=T.length;have core:∀H:Hp,mZ H->RdK K H a (ns.map V.int)->HOk P w H c.heap->(∀b,H b≠none->b=a)->(H a≠none->K.lookup a=none) ->
   codeAny (model P w) callerA (.call (.ref fa) ⟨[.ref a],[]⟩) (λr g=>r=.ok (.ret (.bool true))/\OldK c.heap g.heap/\g.os=c.os/\AllBare g.gens) c:=by
  intro H U hS hok X hK
  have f:∀{b:Addr}{o:Obj},c.heap.get? b=some o->H b=none->(fZ c.heap H).get? b=some o:=λe n=>Gs e n
  have J:∀{b:Addr}{o:Obj}{l:Array DictEntry}{t:Nat},c.heap.get? b=some o->o.data=.dict l t->H b=none:=λ{b o l t} e d=>by
   cases q:H b with
   |none=>rfl
   |some u =>
    have e':b=a:=X b (by rw[q];simp);subst e';rw[I] at e;cases e;have d':Data.seq vs.toArray _=Data.dict l t:=d;cases d'
  have i:∀{b:Addr}{m:Str->Option Value},c.heap.Ns b m->(fZ c.heap H).Ns b m:=λ{b m} ⟨o,l,t,e,d,r⟩=>⟨o,l,t,f e (J e d),d,r⟩
  have B:K.In (fZ c.heap H):=λb o e=>f (Z b o e) (by
   cases q:H b with
   |none=>rfl
   |some u =>
    have e':b=a:=X b (by rw[q];simp);subst e'
    rw[hK (by rw[q];simp)] at e;cases e)
  have hM:Mod K mg (fZ c.heap H):=⟨B,i y,⟨mb,i hb,O⟩,let ⟨mc,h1,h2⟩:=G;⟨mc,i h1,h2⟩⟩;have e0:jA P w K mg (fZ c.heap H) callerA [] c H:=⟨rfl,hM,λb o e=>Gu e,Nat.le_of_eq (Gq _ _),trivial,λb hb=>absurd (show b∈([]:List Addr) from hb) (by simp),hok,.of_eq hg⟩
  refine codeAny_mono ((F _ B (i y)).run callerA [] c H ⟨[.ref a],[]⟩ [.ref a] [.ref a] _ _ hr e0 (j c (.ref a)) (.cons rfl .nil) (L H U hS)) λr g h=>?_
  cases r with
  |error e=>exact(Q H e g h).elim
  |ok fl =>
   cases fl with
   |next=>exact False.elim h
   |brk=>exact False.elim h
   |cont=>exact False.elim h
   |ret u =>
    obtain⟨v,H',os,bare,un,E,r',q⟩:=h;have q':v=.bl true:=q;subst q';obtain rfl:u=Value.bool true:=r';refine⟨rfl,OldK.of_keep λb o e=>?_,os,bare⟩
    cases q:H b with
    |none=>exact un.keep b o e q (by intro z;exact absurd (show b∈([]:List Addr) from z) (by simp)) (by simp)
    |some u =>
     rcases U b with z | ⟨ob,xs,z⟩
     ·rw[q] at z;cases z
     ·have z2:=un.frzs b ob _ z;obtain⟨Y,_⟩:=hok b _ z;obtain⟨e2,_⟩:=E b _ z2;rw[e] at Y;cases Y;exact e2
 cases hk:K.lookup a with
 |some o =>
  have e:=Z a o hk;rw[I] at e;cases e
  refine core (λ_=>none) (λ_=>.inl rfl) (.inr ⟨vs,_,hk,by rw[C];exact R,rv⟩) (λb u z=>by have z':(none:Option HO)=some u:=z;cases z') (λb z=>absurd rfl z) λz=>absurd rfl z
 |none =>
  refine core (λb=>if b=a then some (.frz {cls:=.type "list",data:=.seq vs.toArray} (.lst (ns.map V.int))) else none) (λb=>?_) (.inl (.inr ⟨{cls:=.type "list",data:=.seq vs.toArray},if_pos rfl⟩)) (λb u z=>?_) (λb z=>?_) λ_=>hk
  ·by_cases hb:b=a
   ·exact .inr ⟨_,_,if_pos hb⟩
   ·exact .inl (if_neg hb)
  ·by_cases hb:b=a
   ·have z':=(if_pos hb).symm.trans z;cases z';subst hb;exact⟨I,by rw[ze];exact R,vs,_,rv,I⟩
   ·have z':=(if_neg hb).symm.trans z;cases z'
  ·by_cases hb:b=a
   ·exact hb
   ·exact absurd (if_neg hb) z
theorem walk_ofR{l:PySem.W.OpenLaw}{n k:Nat}{q:Program}{loose:List Str}{XP:(Str->Option Value)->Heap->Prop}{YP:World->Heap->Prop}{d:DefRec}{K:Params->PySem.W.Frag}{CX:World->CXT}{sp:World->Sp}{x:Str}
  (hn:l.most=some n) (hn2:n<=sizeLine) (hdf:d.params.defaults=[]) (hr:bC k callerA)
  (hY:∀(w:World) (h:Heap),YP w h->(K w.params).In h)
  (F:∀(w:World) (mg:Str->Option Value) (fa:Addr) (h:Heap),(K w.params).In h->h.Ns mainGlobals mg->mg d.name=some (.ref fa) ->
   ∃fd:FuncData,(∀(s:Shared) (u:Value),BindsTo s fd ⟨[u],[]⟩ [(x,u)]) /\
    ∀base:Heap,(K w.params).In base->base.Ns mainGlobals mg->dq l.prog w (K w.params) mg base (CX w) k fa fd [x] (sp w))
  (hsp:∀(w:World) (H:Hp) (a:Addr) (ns:List Int),ns.length<=n->mZ H->RdK (K w.params) H a (ns.map V.int)->sp w [.ref a] H (λv _=>v=.bl true) λ_ _ _=>False)
  (hCX:∀(w:World) (H:Hp) (s:Shared) (e:Value) (s':Shared),CX w [] H s (λ_ _ _=>False) e s'->False):
  PySem.W.WalkO q loose XP YP l.row.toRowW d [] (λf vs=>PySem.call f vs):=by
 refine Att.attach_call hn hdf λw s₀ s₁ mg mb fa o pm cd doc a vs ns G Y ho hd hcd hmg hobj hints hlen hg=>?_
 have KX:=hY w _ Y;obtain⟨fd,hb,hF⟩:=F w mg fa _ KX G.T.g hmg
 exact W5 KX G.T.g G.T.b G.T.builtins G.T.nolimit hg hobj hints (zG hlen hn2) hr hF hb (λH hO hS=>hsp w H a ns hlen hO hS) λH e s'=>hCX w H s₁ e s'
theorem dB{K:Frag}{mg:Str->Option Value}{f:Str}:∀c∈([]:List Str),KC K mg c f:=λ_ h=>nomatch h
theorem dC{K:Frag}{mg:Str->Option Value}{f c:Str}{d:List Str}(h:KC K mg c f)(g:∀c∈d,KC K mg c f):∀b∈c::d,KC K mg b f:=λb a=>by
 rcases zk.mp a with rfl | a
 ·exact h
 ·exact g b a
def wF:Nat:=1000000
def sp_law(K:Frag):Sp:=λvs H Q _=>∃(a:Addr) (ns:List Int),vs=[.ref a]/\RdK K H a (ns.map V.int)/\ns.length<=63/\mZ H/\∀b,Q (.bl true) b
theorem Rps.ofInts{K:Frag}{F:Hp}{a:List Addr}:∀ns:List Int,Rps K F a (ns.map V.int) (ns.map D.int)
 | []=>Rps.nil
 |n::ns=>Rps.cons Rp.int (Rps.ofInts ns)
theorem W6{K:Frag}{mg:Str->Option Value}{c:List D->aq->Res D}(h:∀ns:List Int,ns.length<=63->∃d,c [.lst (ns.map D.int)] []=.ok (.bl true) d):∀vs H Q E,sp_law K vs H Q E->vSp K mg [.s] (rV K) c vs H Q E:=by
 rintro vs H Q E ⟨a,ns,rfl,hS,hl,hO,q⟩;obtain⟨d,e⟩:=h ns hl
 have r:RlO K mg [] H H []:=⟨Same.refl H,λb o e=>by
  rcases hO b with z | ⟨m,k,z⟩
  ·rw[e] at z;cases z
  ·rw[e] at z;cases z;rfl,List.nodup_nil,rfl,(λ_ z=>nomatch z),λn b o z=>by cases z⟩
 refine⟨[.lst (ns.map D.int)],[],H,[],.bl true,d,r,⟨.inl (Rp.mkL hS (Rps.ofInts ns)),trivial⟩,e,λv i t j g l f=>?_⟩;rw[Rp.unB f];exact q i
def keyOf:D->Option Key
 | .int i=>some (.inl i)
 | .str l=>some (.inr (S l))
 | _=>none
theorem W7{d:D}{k:Key}(h:keyOf d=some k):km k=d:=by
 cases d with
 |int i=>cases h;rfl
 |str l=>cases h;show D.str (S l).cps.toList=_;rw[iH]
 | _=>cases h
theorem Rp.key{K:Frag}{F:Hp}{a:List Addr}{v:V}{d:D}{k:Key}(h:Rp K F a v d)(e:keyOf d=some k):v=kV k:=by
 cases d with
 |int i=>cases e;exact h.unI
 |str l=>cases e;exact h.unS
 | _=>cases e
theorem W8(k:Key):keyOf (km k)=some k:=by
 cases k with
 |inl i=>rfl
 |inr x=>show some (Sum.inr (S x.cps.toList))=_;rw[Vg]
def lZ:List D->List D->Key->Option D
 |k::ks,v::vs,x=>if keyOf k=some x then some v else lZ ks vs x
 | _,_,_=>none
theorem Jt{K:Frag}{F:Hp}{b:List Addr}:∀{kvs:List (Key×V)}{vs:List D} (x:Key),Rps K F b (kvs.map (·.2)) vs ->
  (lZ (kvs.map λp=>km p.1) vs x=none/\di kvs x=none)\/∃d v,lZ (kvs.map λp=>km p.1) vs x=some d/\di kvs x=some v/\Rp K F b v d
 | [],vs,x,h=>.inl ⟨by cases vs<;>rfl,rfl⟩
 | (k,v)::kvs,vs,x,h=>by
  cases vs with
  |nil=>have:=h.un0;cases this
  |cons d ds =>
   obtain⟨y,r,e,h1,h2⟩:=h.un;simp only[zh,List.cons.injEq] at e;obtain⟨rfl,rfl⟩:=e;rw[zh,lZ,W8]
   by_cases a:k=x
   ·subst a;exact .inr ⟨d,v,by rw[if_pos rfl],by simp[di],h1⟩
   ·rw[if_neg (λz=>a (zD z))]
    have c:di ((k,v)::kvs) x=di kvs x:=by
     unfold di;rw[List.find?_cons_of_neg (by simpa using a)]
    rw[c];exact Jt x h2
section
variable {X:Cx}{md:List Md}{P:Pt}
def Prs(K:Frag)(F:Hp)(a:List Addr):List (V×V)->List (D×D)->Prop
 | [],[]=>True
 |p::ps,d::ds=>Rp K F a p.1 d.1/\Rp K F a p.2 d.2/\Prs K F a ps ds
 | _,_=>False
def DPE(X:Cx)(md:List Md)(P:Pt)(g:Pos)(keys:List (Option Expr))(values:List Expr)(m:M (List (D×D))):Prop:=∃b:List (TE×TE),
 PPs X g keys values b/\∀σ H Q,(∃ρ O F c kv i,RlO X.K X.mg O H F c/\SlO X.K md P ρ σ H F c/\m ρ O=.ok kv i/\∀h d f a,Gr H F c d f a->RlO X.K X.mg i d f a->Prs X.K f a h kv->Q h d)->um b σ H Q
def rH:M (List (D×D)):=λ_ O=>.ok [] O
def mj(f d:M D)(r:M (List (D×D))):M (List (D×D)):=λρ O=>(f ρ O).bind λa i=>(d ρ i).bind λb h=>(r ρ h).bind λc g=>.ok ((a,b)::c) g
theorem W9{a:Pos}:DPE X md P a [] [] rH:=⟨[],UG,λσ H Q q=>by
 obtain⟨ρ,O,F,b,kv,c,r,s,e,k⟩:=q;cases e
 exact k [] H F b Gr.refl r trivial⟩
theorem Ju{c:Pos}{u v:Expr}{ks:List (Option Expr)}{vs:List Expr}{h g:M D}{m:M (List (D×D))}(T:VE X md P u h)(hv:VE X md P v g)(f:DPE X md P c ks vs m):
  DPE X md P c (some u::ks) (v::vs) (mj h g m):=by
 obtain⟨j,f⟩:=f
 exact⟨(tM X.K X.mg md P (rV X.K) h,tM X.K X.mg md P (rV X.K) g)::j,UJ T hv f.1,λσ H Q q=>by
 obtain⟨ρ,O,F,Z,kv,O',r,s,e,k⟩:=q;obtain⟨a,O1,Y,e⟩:=Res.bind_ok e;obtain⟨b,O2,W,e⟩:=Res.bind_ok e;obtain⟨ps,O3,U,e⟩:=Res.bind_ok e;cases e;refine⟨ρ,_,F,Z,_,_,r,s,Y,λx H1 F1 t C I L=>?_⟩;refine⟨ρ,_,F1,t,_,_,I,s.step C,W,λy H2 F2 n B G J=>?_⟩;have d:=C.trans B;refine f.2 σ H2 _ ⟨ρ,_,F2,n,_,_,G,s.step d,U,λqs H3 F3 l i E R=>?_⟩
 exact k _ H3 F3 l (d.trans i) E ⟨(Rp.gr L B).gr i,Rp.gr J i,R⟩⟩
def keysOf:List (D×D)->Option (List Key)
 | []=>some []
 | (a,_)::r=>(keyOf a).bind λk=>(keysOf r).map (k :: ·)
theorem Prs.kvs{K:Frag}{F:Hp}{c:List Addr}:∀{kv:List (D×D)}{ps:List (V×V)}{ks:List Key},Prs K F c ps kv->keysOf kv=some ks ->
  ∃kvs:List (Key×V),ps=kvs.map (λp=>(kV p.1,p.2))/\kvs.map (·.1)=ks/\kv.map (·.1)=kvs.map (λp=>km p.1)/\Rps K F c (kvs.map (·.2)) (kv.map (·.2))
 | [],ps,ks,h,e=>by
  cases ps with
  |nil=>cases e;exact⟨[],rfl,rfl,rfl,Rps.nil⟩
  |cons _ _=>exact h.elim
 | (a,b)::kv,ps,ks,h,e=>by
  cases ps with
  |nil=>exact h.elim
  |cons p ps =>
   obtain⟨f,d⟩:=p;unfold keysOf at e
   cases ea:keyOf a with
   |none=>rw[ea] at e;cases e
   |some k =>
    rw[ea] at e
    cases er:keysOf kv with
    |none=>rw[er] at e;cases e
    |some ks' =>
     rw[er] at e;cases e;obtain⟨kvs,h1,h2,h3,h4⟩:=Prs.kvs h.2.2 er;refine⟨(k,d)::kvs,?_,?_,?_,Rps.cons h.2.1 h4⟩
     ·rw[zh,<-h1]
      have:f=kV k:=Rp.key h.1 ea
      rw[this]
     ·rw[zh,h2]
     ·rw[zh,zh,h3,W7 ea]
theorem Jv:∀(more acc:List (Key×V)),((acc++more).map (·.1)).Nodup->lN acc more=acc++more
 | [],acc,_=>by simp[lN]
 | (k,v)::r,acc,h=>by
  have a:di acc k=none:=by
   cases q:di acc k with
   |none=>rfl
   |some w =>
    exfalso
    unfold di at q
    cases f:acc.find? λkv=>decide (kv.1=k) with
    |none=>rw[f] at q;cases q
    |some z =>
     have h1:=List.find?_some f;have h2:=List.mem_of_find?_eq_some f;rw[zW,jj] at h;exact h.2.2 z.1 (List.mem_map_of_mem h2) k (by simp) (zV h1)
  show lN (putK acc k v) r=_;rw[Uv _ a,Jv r _ (by rw[zB];exact h),zB];rfl
def rJ(m:M (List (D×D))):M D:=λρ O=>(m ρ O).bind λkv b=>match keysOf kv with
 |some a=>if a.Nodup/\kv.length<=15 then .ok (.dic (kv.map (·.1)) (kv.map (·.2))) b else .no
 |none=>.no
theorem Prs.length{K:Frag}{F:Hp}{a:List Addr}:∀{kv:List (D×D)}{ps:List (V×V)},Prs K F a ps kv->ps.length=kv.length
 | [],[],_=>rfl
 | _::kv,_::ps,h=>by simp[Prs.length h.2.2]
 | [],_::_,h=>h.elim
 | _::_,[],h=>h.elim
theorem Xa{t:Pos}{keys:List (Option Expr)}{values:List Expr}{m:M (List (D×D))}(h:DPE X md P t keys values m)(x:keys.all (·.isSome)=true:=by rfl)(hl:keys.length=values.length:=by rfl)(h0:keys≠[]:=by exact λz=>nomatch z)(E:keys.length<=15:=by decide):
  VE X md P (.Dict keys values t) (rJ m):=by
 obtain⟨trs,h⟩:=h
 refine(UT h.1 x hl h0 E).imp λσ H Q q=>?_
 obtain⟨ρ,O,F,n,d,O',r,s,e,k⟩:=q;obtain⟨kv,O1,e1,e⟩:=Res.bind_ok e;split at e
 ·rename_i ks ek;split at e
  ·rename_i Z;cases e;intro p f;have L:Gr H F n (upd H p (.dK [])) F n:=Gr.lay f;refine h.2 σ _ _ ⟨ρ,_,F,n,kv,_,r.lay f,s.step L,e1,λps C l c B T I=>?_⟩
   have j:p∉n:=λz=>r.all z f
   have h2:C p=some (.dK []):=B.fr _ _ cg j rfl;obtain⟨kvs,G,Y,W,U⟩:=I.kvs ek
   have hlen:kvs.length<=15:=by
    have:=I.length
    rw[G,ze] at this;omega
   refine⟨h2,kvs,G,hlen,?_⟩;rw[Jv kvs [] (by rw[zI,Y];exact Z.1),zI]
   have hn:upd H p (.dK []) p≠none:=by rw[cg];exact λz=>nomatch z
   have y:l p=none:=by rw[B.fz p _ cg j rfl];exact r.frF f
   have i:p∉c:=B.out j hn
   have ff:Same l (upd l p (.dK kvs)):=λb u q=>by rw[aQ (cI q y)];exact q
   have g3:Gr H F n (upd C p (.dK kvs)) l c:=by
    have g:=L.trans B
    exact⟨g.fz,g.ff,g.nw,λa o e ha hd=>by rw[aQ (cI e f)];exact g.fr a o e ha hd,λa e=>by
     by_cases J:a=p
     ·subst J;exact f
     ·rw[aQ J] at e;exact g.dm a e,λa o u e=>by rw[aQ (cI e f)];exact g.kz a o u e⟩
   have R:RlO X.K X.mg _ (upd C p (.dK kvs)) l c:=T.mut y i;refine k _ _ (upd l p (.dK kvs)) c (g3.frz f y) (R.frz cg y i rfl) ?_;show Rp X.K _ _ _ _;rw[Rp];exact⟨p,kvs,rfl,cg,W,Rps.mono ff (λ_ _ z=>z) _ U⟩
  ·cases e
 ·cases e
def uG(c b a:M D):M D:=λρ O=>(c ρ O).bind λx g=>(b ρ g).bind λy f=>(a ρ f).bind λz d=>match x,keyOf y with
 | .dic ks vs,some k=>.ok ((lZ ks vs k).getD z) d
 | _,_=>.no
theorem Xb{k:Nat}(hr:bC k X.A){o e f:Expr}{apos b:Pos}{L J I:M D}(ho:VE X md P o L)(he:VE X md P e J)(hf:VE X md P f I)(m:M2 X o "get" apos e f b:=by exact⟨rfl,rfl,rfl,rfl⟩):VE X md P (.Call (.Attribute o "get" apos) [e,f] [] b) (uG L J I):=
 (U3 (Uu hr) ho he hf m).imp λσ H Q q=>by
  obtain⟨ρ,O,F,as,d,O',r,s,e,k⟩:=q;obtain⟨x,O1,e1,e⟩:=Res.bind_ok e;obtain⟨y,O2,e2,e⟩:=Res.bind_ok e;obtain⟨z,O3,e3,e⟩:=Res.bind_ok e;split at e
  ·rename_i _ t Z _ _;cases e;refine⟨ρ,_,F,as,_,_,r,s,e1,λv H1 F1 E Y G hv=>?_⟩;obtain⟨a,kvs,rfl,h1,rfl,h2⟩:=Rp.unD hv;refine⟨a,rfl,.inl ⟨kvs,.inl (G.fh _ _ h1)⟩,ρ,_,F1,E,_,_,G,s.step Y,e2,λu H2 F2 C W r2 R=>?_⟩;have h:=Y.trans W;refine⟨ρ,_,F2,C,_,_,r2,s.step h,e3,λw B F3 i U n hw=>?_⟩;have g:=h.trans U;have T:=W.trans U;have c:B a=some (.dK kvs):=n.fh _ _ (T.ff _ _ h1)
   rcases Jt t h2 with⟨l,j⟩ | ⟨d',v',l,j,z3⟩
   ·refine⟨none,.inl ⟨kvs,t,.inl c,Rp.key R Z,j.symm⟩,?_⟩;rw[l] at k;exact k _ B F3 i g n hw
   ·refine⟨some v',.inl ⟨kvs,t,.inl c,Rp.key R Z,j.symm⟩,?_⟩;rw[l] at k;exact k _ B F3 i g n (z3.gr T)
  ·cases e
end
section
variable {X:Cx}{md:List Md}{P:Pt}{k:Nat}{c x m:Str}{ps:List Str}{p pos apos:Pos}{o e:Expr}{es:List Expr}{pm:List Md}{cf:List D->aq->Res D}{mo:M D}{ma:M (List D)}
theorem bM(C:Can X.prog X.w X.K X.mg X.base x ps k (vSp X.K X.mg pm (rV X.K) cf))(d:bC k X.A)(h:AE X md P pm (e::es) ma)(f:Gl X x:=by rfl)(b:(x == ("__debug__":Str))=false:=by decide)(g:starEach (e::es) X.env=(false,eval e X.env)::starEach es X.env:=by exact cV rfl)(a:(backTo pos (starEach es X.env)).any (·.1)=false:=by exact dW rfl):
  VE X md P (.Call (.Name x p) (e::es) [] pos) (aJ cf ma):=Iw cA C d h f b g a
theorem iB(C:Can X.prog X.w X.K X.mg X.base x ps k (vSp X.K X.mg pm (rO X.K) cf))(d:bC k X.A)(h:AE X md P pm (e::es) ma)(f:Gl X x:=by rfl)(b:(x == ("__debug__":Str))=false:=by decide)(g:starEach (e::es) X.env=(false,eval e X.env)::starEach es X.env:=by exact cV rfl)(a:(backTo pos (starEach es X.env)).any (·.1)=false:=by exact dW rfl):
  OE X md P (.Call (.Name x p) (e::es) [] pos) (aJ cf ma):=Iw du C d h f b g a
theorem Xd(C:Can X.prog X.w X.K X.mg X.base x ps k (vSp X.K X.mg [] (rV X.K) cf))(b:bC k X.A)(d:Gl X x:=by rfl)(a:(x == ("__debug__":Str))=false:=by decide):VE X md P (.Call (.Name x p) [] [] pos) (aJ cf au):=V7 cA C b d a
theorem Jw{pl:Sem Bool}(M:fO X.prog X.w X.K X.mg X.base c m ps k (vSp X.K X.mg (.v::pm) (rV X.K) cf))(g:bC k X.A)(h:VE X md P o mo)(i:AE X md P pm (e::es) ma)(a:starEach (e::es) X.env=(false,eval e X.env)::starEach es X.env:=by exact cV rfl)(b:(backTo pos (starEach es X.env)).any (·.1)=false:=by exact dW rfl)
  (d:eval (.Call (.Attribute o m apos) (e::es) [] pos) X.env=(do
   let ov <-eval o X.env
   standAt apos.atName
   let (f,first) <-holding [ov] (getMethod ov m pl)
   callWith pos f first (backTo pos (starEach (e::es) X.env)) (backToKw pos (keywordEach [] X.env))):=by rfl):VE X md P (.Call (.Attribute o m apos) (e::es) [] pos) (bQ c m cf mo ma):=Jp cA M g h i a b d
theorem o9{pl:Sem Bool}(M:fO X.prog X.w X.K X.mg X.base c m ps k (vSp X.K X.mg (.v::pm) (rO X.K) cf))(g:bC k X.A)(h:VE X md P o mo)(i:AE X md P pm (e::es) ma)(a:starEach (e::es) X.env=(false,eval e X.env)::starEach es X.env:=by exact cV rfl)(b:(backTo pos (starEach es X.env)).any (·.1)=false:=by exact dW rfl)
  (d:eval (.Call (.Attribute o m apos) (e::es) [] pos) X.env=(do
   let ov <-eval o X.env
   standAt apos.atName
   let (f,first) <-holding [ov] (getMethod ov m pl)
   callWith pos f first (backTo pos (starEach (e::es) X.env)) (backToKw pos (keywordEach [] X.env))):=by rfl):OE X md P (.Call (.Attribute o m apos) (e::es) [] pos) (bQ c m cf mo ma):=Jp du M g h i a b d
theorem rK{pl:Sem Bool}(M:fO X.prog X.w X.K X.mg X.base c m ps k (vSp X.K X.mg [.v] (rV X.K) cf))(b:bC k X.A)(d:VE X md P o mo)
  (a:eval (.Call (.Attribute o m apos) [] [] pos) X.env=(do
   let ov <-eval o X.env
   standAt apos.atName
   let (f,first) <-holding [ov] (getMethod ov m pl)
   callWith pos f first (backTo pos (starEach [] X.env)) (backToKw pos (keywordEach [] X.env))):=by rfl):VE X md P (.Call (.Attribute o m apos) [] [] pos) (bQ c m cf mo au):=Jq cA M b d a
theorem Xe{pl:Sem Bool}(M:fO X.prog X.w X.K X.mg X.base c m ps k (vSp X.K X.mg [.v] (rO X.K) cf))(b:bC k X.A)(d:VE X md P o mo)
  (a:eval (.Call (.Attribute o m apos) [] [] pos) X.env=(do
   let ov <-eval o X.env
   standAt apos.atName
   let (f,first) <-holding [ov] (getMethod ov m pl)
   callWith pos f first (backTo pos (starEach [] X.env)) (backToKw pos (keywordEach [] X.env))):=by rfl):OE X md P (.Call (.Attribute o m apos) [] [] pos) (bQ c m cf mo au):=Jq du M b d a
end
def Itz(K:Frag)(d c:Addr):It:=⟨λi H=>∃b a x y,SqL K H d b/\SqL K H c a/\b[i]?=some x/\a[i]?=some y,
 λi H v f=>∃T x y,v=.ref T/\H T=none/\f=upd H T (.tup [x,y])/\(∀b,SqL K H d b->b[i]?=some x)/\∀a,SqL K H c a->a[i]?=some y,
 λi H=>∃b a,SqL K H d b/\SqL K H c a/\(b.length<=i\/a.length<=i)⟩
theorem Xf{P:Program}{w:World}{K:Frag}{elts:List Expr}{x1}{pos:Pos}(z TI TO i1 i2 l1 l2:Addr)(D:ZipApart z TI TO i1 i2 l1 l2):Turn P w K (.Tuple elts x1 pos) (Itz K l1 l2) [z,TI,TO,i1,i2] z
  (λi h=>IsZip h z TI TO .none/\IsPair h TI (.ref i1) (.ref i2)/\(∃a b,IsPair h TO a b)/\h.IsListIter i1 l1 i/\h.IsListIter i2 l2 i) where
 mem:=by simp
 obj:=λi h st b hb=>by
  obtain⟨hz,hTI,⟨a,b',hTO⟩,⟨o1,ho1,hc1,hd1⟩,⟨o2,ho2,hc2,hd2⟩⟩:=st;simp only[zk,List.not_mem_nil,or_false] at hb
  rcases hb with rfl | rfl | rfl | rfl | rfl
  ·exact nj hz rfl
  ·exact⟨_,hTI,λv z=>nomatch z⟩
  ·exact⟨_,hTO,λv z=>nomatch z⟩
  ·exact nj ho1 hd1
  ·exact nj ho2 hd2
 keep:=λi h h' st k=>by
  obtain⟨hz,hTI,⟨a,b',hTO⟩,h1,h2⟩:=st;exact⟨k z (by simp) _ hz,k TI (by simp) _ hTI,⟨a,b',k TO (by simp) _ hTO⟩,h1.at λo e=>k i1 (by simp) o e,h2.at λo e=>k i2 (by simp) o e⟩
 item:=by
  intro X hP hw hK hc i pins s σ H E I hf st hg;subst hP hw hK;obtain⟨hz,hTI,⟨a,b',hTO⟩,h1,h2⟩:=st;obtain⟨xs,ys,x,y,hq1,hq2,hx,hy⟩:=hg;obtain⟨its1,rv1,pl1,hz1⟩:=I.list hq1;obtain⟨its2,rv2,pl2,hz2⟩:=I.list hq2;obtain⟨u1,hu1,ru1⟩:=rv1.get hx;obtain⟨u2,hu2,ru2⟩:=rv2.get hy;have hT:H s.heap.objs.size=none:=I.hok.fresh (zc _);have elt:z<s.heap.objs.size:=zj hz
  refine wpAny_pyNext_zip_item D hz hTI hTO h1 h2 pl1.isList pl2.isList (x:=u1) (y:=u2) (by simpa using hu1) (by simpa using hu2) λh' a1 a2 a3 a4 a5 a6 hk=>⟨_,rfl,?_⟩
  refine wpAny_letOwnedTupleGo_zip a1 λh'' hz'' hs''=>⟨.ref s.heap.objs.size,_,?_,rfl,⟨s.heap.objs.size,x,y,rfl,hT,rfl,λys' hy'=>by rw[I.list_inj hy' hq1];exact hx,λys' hy'=>by rw[I.list_inj hy' hq2];exact hy⟩,⟨hz'',hs''.extBut _ _ D.TIz (hk _ _ D.TIz D.TITO D.TIi1 D.TIi2 hTI),⟨_,_,hs''.extBut _ _ D.TOz a2⟩,a3.extBut hs''.extBut D.i1z,a4.extBut hs''.extBut D.i2z⟩,λb hb=>?_⟩
  ·show Inv X pins σ _ {s with heap:=h'',toks:=s.toks};refine I.turnT (ch:=[z,TI,TO,i1,i2]) (us:=[u1,u2]) hf (λb o hb q=>?_) (zc _) ⟨_,hs''.extBut _ _ (Nat.ne_of_gt elt) a5,rfl,_,rfl⟩ (.cons ru1 (.cons ru2 .nil)) (by show 2<=sizeLine;decide)
   have n1:b≠z:=λe=>hb (by simp[e])
   have n2:b≠TO:=λe=>hb (by simp[e])
   have n3:b≠i1:=λe=>hb (by simp[e])
   have n4:b≠i2:=λe=>hb (by simp[e])
   exact hs''.extBut _ _ n1 (hk b o n1 n2 n3 n4 q)
  ·have q:=hf b hb;rw[aQ (λe=>?_)]
   ·exact q.1
   ·obtain⟨o,ho⟩:∃o,s.heap.get? b=some o:=by
     obtain⟨o1,ho1,_⟩:=h1;obtain⟨o2,ho2,_⟩:=h2;simp only[zk,List.not_mem_nil,or_false] at hb
     rcases hb with rfl | rfl | rfl | rfl | rfl
     ·exact⟨_,hz⟩
     ·exact⟨_,hTI⟩
     ·exact⟨_,hTO⟩
     ·exact⟨_,ho1⟩
     ·exact⟨_,ho2⟩
    exact absurd (zj ho) (by rw[e];exact zQ _)
 done:=by
  intro X hP hw hK hc i pins s σ H E I hf st hg;subst hP hw hK;obtain⟨hz,hTI,⟨a,b',hTO⟩,h1,h2⟩:=st;obtain⟨xs,ys,hq1,hq2,hl⟩:=hg;obtain⟨its1,rv1,pl1,hz1⟩:=I.list hq1;obtain⟨its2,rv2,pl2,hz2⟩:=I.list hq2;have l1:=rv1.length;have l2:=rv2.length
  refine wpAny_pyNext_zip_end (I.ok.hd hc) D hz hTI hTO h1 h2 pl1.isList pl2.isList (by
   rcases hl with hl | hl
   ·left;simp;omega
   ·right;simp;omega) λh' hx=>⟨rfl,?_⟩
  exact I.turnL (t':=s.toks) (ch:=[z,TI,TO,i1,i2]) hf λb o hb q=>hx b o (λe=>hb (by simp[e])) (λe=>hb (by simp[e])) (λe=>hb (by simp[e])) (λe=>hb (by simp[e])) q
 self:=λA i s Q E st h=>wpAny_pyIter_zip st.1 h
section
variable {X:Cx}{md:List Md}{P:Pt}{R:RR}{elts:List Expr}{x1:Nat}{tpos:Pos}
def Xg(K:Frag)(h:TA):TI:=λσ H R=>h σ H λg c=>∃a b,g=[.ref a,.ref b]/\(∃f,SqL K c a f)/\(∃d,SqL K c b d)/\R (Itz K a b) c
theorem Xh{a b:Expr}{u:TA}{p c:Pos}(L:Gl X "zip")(G:X.mg "zip" = none)(O:PA X [a,b] u)(hs:starEach [a,b] X.env=(false,eval a X.env)::starEach [b] X.env:=by exact cV rfl)(n:(backTo c (starEach [b] X.env)).any (·.1)=false:=by exact dW rfl):
  PI X (.Tuple elts x1 tpos) (.Call (.Name "zip" p) [a,b] [] c) (Xg X.K u):=by
 intro pins s σ H R I h;refine Call_ (j6 I L G boot_zip (PyProof.Rows.callWith_type1 (thn (O c pins s σ H _ I h) λus s1 ⟨vs,H1,I1,r1,q1⟩=>?_) hs n));obtain⟨y,x,e,⟨xs,m⟩,⟨Z,l⟩,q⟩:=q1;subst e;obtain⟨u1,u2,rfl,k,j⟩:=vals2 r1;cases k;cases j;obtain⟨F,T,f,W⟩:=I1.list m;obtain⟨E,Q,d,U⟩:=I1.list l
 have a1:y<s1.heap.objs.size:=by obtain⟨_,e,_⟩:=f.isList;exact zj e
 have a2:x<s1.heap.objs.size:=by obtain⟨_,e,_⟩:=d.isList;exact zj e
 refine call_zip_2 f.isList d.isList λh' B t r i g Y J=>wpAny_pyIter_zip B ?_
 refine⟨s1.heap.objs.size+4,[s1.heap.objs.size+4,s1.heap.objs.size+2,s1.heap.objs.size+3,s1.heap.objs.size,s1.heap.objs.size+1],_,_,H1,rfl,I1.kept (t':=s1.toks) J,Xf _ _ _ _ _ y x (zipApart_new a1 a2),⟨B,t,⟨_,_,r⟩,i,g⟩,λb C=>?_,q⟩
 have hb':s1.heap.objs.size<=b:=by
  simp only[zk,List.not_mem_nil,or_false] at C
  rcases C with rfl | rfl | rfl | rfl | rfl
  ·exact jk _ _
  ·exact jk _ _
  ·exact jk _ _
  ·exact zc _
  ·exact jk _ _
 exact I1.fpOk hb' (I1.hok.fresh hb')
def fJ:List D->List D->List D
 |d::ds,e::es=>.tup [d,e]::fJ ds es
 | _,_=>[]
theorem Jx:∀(ds es:List D) (i:Nat) (x:D),(fJ ds es)[i]?=some x->∃d e,ds[i]?=some d/\es[i]?=some e/\x=.tup [d,e]
 | [],es,i,x,h=>by simp[fJ] at h
 |d::ds,[],i,x,h=>by simp[fJ] at h
 |d::ds,e::es,0,x,h=>by
  simp[fJ] at h
  exact⟨d,e,rfl,rfl,h.symm⟩
 |d::ds,e::es,i+1,x,h=>by
  obtain⟨b,a,h1,h2,h3⟩:=Jx ds es i x (by simpa [fJ] using h);exact⟨b,a,by simpa using h1,by simpa using h2,h3⟩
theorem Jy:∀(ds es:List D),ds.length<=(fJ ds es).length\/es.length<=(fJ ds es).length
 | [],es=>.inl (Nat.zero_le _)
 |d::ds,[]=>.inr (Nat.zero_le _)
 |d::ds,e::es=>by
  rcases Jy ds es with h | h
  ·left;simp[fJ];exact h
  ·right;simp[fJ];exact h
def rM(a mb:M D):M (List D):=λρ O=>(a ρ O).bind λd c=>(mb ρ c).bind λe b=>match d,e with
 | .lst ds,.lst es=>.ok (fJ ds es) b
 | _,_=>.no
theorem Xi{a b:Expr}{p n:Pos}{ma mb:M D}(hm:X.mg "zip" = none)(h:WE X md P a ma)(h':WE X md P b mb)(hg:Gl X "zip":=by rfl)(hs:starEach [a,b] X.env=(false,eval a X.env)::starEach [b] X.env:=by exact cV rfl)(L:starEach [b] X.env=(false,eval b X.env)::starEach [] X.env:=by exact cV rfl)(U:(backTo n (starEach [b] X.env)).any (·.1)=false:=by exact dW rfl):
  VI X md P (.Tuple elts x1 tpos) (.Call (.Name "zip" p) [a,b] [] n) (rM ma mb):=(Xh hg hm (gW h (gW h' jz L) hs) hs U).imp λσ H Q q=>by
 obtain⟨ρ,O,F,as,ds,O',r,s,e,k⟩:=q;obtain⟨d1,O1,e1,e⟩:=Res.bind_ok e;obtain⟨d2,O2,e2,e⟩:=Res.bind_ok e
 cases d1 with
 |lst ds1 =>
  cases d2 with
  |lst ds2 =>
   cases e;refine⟨ρ,_,F,as,_,_,r,s,e1,λv H1 F1 W g1 r1 hv=>?_⟩;refine⟨ρ,_,F1,W,_,_,r1,s.step g1,e2,λu B C l G E hu=>?_⟩;obtain⟨a,m,rfl,h1,h2⟩:=uz (mg:=X.mg) hv;obtain⟨b,t,rfl,h3,h4⟩:=uz (mg:=X.mg) hu
   have h2':∀(f j:Hp) (c:List Addr),GrS P B C l f j c->(∃O,RlO X.K X.mg O f j c)->RdK X.K f a m:=λf j c g r=>h2 f j c (G.toS.trans g) r
   have h1':=h1.gr G;refine⟨a,b,rfl,⟨m,(h2' B C l GrS.refl ⟨_,E⟩).sq⟩,⟨t,(h4 B C l GrS.refl ⟨_,E⟩).sq⟩,k _ B C l (g1.trans G) E ⟨λi d f j c g r e=>?_,λf j c g r=>⟨m,t,(h2' f j c g r).sq,(h4 f j c g r).sq,?_⟩⟩⟩
   ·obtain⟨x',y',q1,q2,rfl⟩:=Jx _ _ _ _ e;obtain⟨x,hx,rx⟩:=h1'.get' q1;obtain⟨y,hy,ry⟩:=h3.get' q2;have Z:=(h2' f j c g r).sq;have Y:=(h4 f j c g r).sq;refine⟨⟨m,t,x,y,Z,Y,hx,hy⟩,λz H4 hz=>?_⟩;obtain⟨T,x2,y2,rfl,hT,rfl,J,I⟩:=hz;have t1:=J m Z;have t2:=I t Y;rw[hx] at t1;rw[hy] at t2;cases t1;cases t2;exact yp r hT (Rps.cons (rx.grS g) (Rps.cons (ry.grS g) Rps.nil))
   ·rw[h1'.length,h3.length];exact Jy ds1 ds2
  | _=>cases e
 | _=>cases e
def rN(m:MS):MS:=λρ O=>match m ρ O with
 | .rt d O'=>.rt d O'
 | _=>.no
theorem SlO.toV{K:Frag}{ρ:aA}{σ:St}{H F g:Hp}{E:List Addr}{i:Nat}(s:SlO K md P ρ σ H F E)(I:md[i]?=some .o)(ff:Same F g)
  (f:∀(j:Nat) (ds:List D) (a:Addr),j≠i->md[j]?=some .o->ρ[j]?=some (some (.lst ds))->σ[j]?=some (some (.ref a))->g a=F a)
  (hv:∀d,ρ[i]?=some (some d)->∃v,σ[i]?=some (some v)/\Rp K g E v d):SlO K (md.set i .v) P ρ σ H g E:=by
 have J:i<md.length:=(zq.mp I).1
 have back:∀(j:Nat),(md.set i Md.v)[j]?=some Md.o->j≠i/\md[j]?=some .o:=λj e=>by
  by_cases b:j=i
  ·subst b;rw[zM J] at e;cases e
  ·rw[zv (Ne.symm b)] at e;exact⟨b,e⟩
 refine⟨by rw[jf];exact s.len,by rw[jf];exact s.len',s.pd,λj m d c C=>?_,λj k a ds W h1 h2 h3 h4 U T=>s.inj j k a ds W (back j h1).2 (back k h2).2 h3 h4 U T,λx Q=>?_⟩
 ·by_cases b:j=i
  ·subst b;rw[zM J] at c;cases c;exact hv d C
  ·rw[zv (Ne.symm b)] at c;obtain⟨v,q,t⟩:=s.sl j m d c C;refine⟨v,q,?_⟩
   cases m with
   |v=>exact Rp.mono ff (λ_ _ z=>z) _ t
   |s =>
    rcases t with t | ⟨a,h,ds,t1,t2,u,r,n,l⟩
    ·exact .inl (Rp.mono ff (λ_ _ z=>z) _ t)
    ·exact .inr ⟨a,h,ds,t1,t2,u,r,n,Rps.mono ff (λ_ _ z=>z) _ l⟩
   |o =>
    rcases t with⟨y,t⟩ | ⟨a,h,ds,rfl,rfl,u,y,r,n,l⟩
    ·exact .inl ⟨y,Rp.mono ff (λ_ _ z=>z) _ t⟩
    ·exact .inr ⟨a,h,ds,rfl,rfl,u,by rw[f j ds a b c C q];exact y,r,n,Rps.mono ff (λ_ _ z=>z) _ l⟩
 ·obtain⟨B,O,L⟩:=s.pin x Q
  have G:i≠x.1:=λz=>by rw[<-z,I] at B;cases B
  exact⟨by rw[zv G];exact B,O,L⟩
theorem Xj{K:Frag}{mg:Str->Option Value}{i:Nat}{m:MS}(n:md[i]?=some .o){D:Ends}{σ:St}{H:Hp}(q:tMS K mg md P R (rN m) D σ H):tMS K mg (md.set i .v) P R m D σ H:=by
 obtain⟨ρ,O,F,y,r,s,k⟩:=q;unfold rN at k
 cases e:m ρ O with
 |rt d O' =>
  rw[e] at k
  by_cases E:∃t,ρ[i]?=some (some (.lst t))
  ·obtain⟨t,l⟩:=E;obtain⟨a,x,h1,h2,h3,h4,W,U⟩:=s.own n l
   have ff:Same F (upd F a (.lst x)):=λb u q=>by rw[aQ (cI q h3)];exact q
   have Y:GrS P H F y H (upd F a (.lst x)) y:=⟨λc _ p _ _ _=>aQ (λz=>W (by rw[<-z];exact p)),ff,⟨[],by simp,λ_ h=>nomatch h⟩,λ_ _ _ h _ _=>h,λ_ h=>h,λ_ _ _ h=>h⟩;refine⟨ρ,O,upd F a (.lst x),y,r.frz h2 h3 h4 rfl,s.toV n ff (λj Z b T L J C=>?_) (λG f=>?_),?_⟩
   ·refine aQ λz=>T ?_
    rw[z] at C;exact s.inj j i a Z t L n J l C h1
   ·rw[l] at f;cases f;exact⟨_,h1,Rp.mkL (.inl (.inl cg)) (Rps.mono ff (λ_ _ z=>z) _ U)⟩
   ·rw[e]
    exact λv H' F' B g I Q=>k v H' F' B (Y.trans g) I Q
  ·refine⟨ρ,O,F,y,r,s.toV n (Same.refl F) (λ_ _ _ _ _ _ _=>rfl) (λG f=>?_),by rw[e];exact k⟩;obtain⟨v,h1,h2⟩:=s.sl i .o G n f
   rcases h2 with⟨_,h2⟩ | ⟨a,x,t,_,rfl,_⟩
   ·exact⟨v,h1,h2⟩
   ·exact absurd ⟨t,f⟩ E
 | _=>rw[e] at k;exact False.elim k
theorem Xk(i:Nat){st:Stmt}{m:MS}(a:md[i]?=some .o)(h:VS X (md.set i .v) P R st m):VS X md P R st (rN m):=h.imp λ_ _ _=>Xj a
end
section
variable {prog:Program}{w:World}{A:Around}{E:Value->Shared->Prop}
end
section
variable {X:Cx}{md:List Md}{P:Pt}{R:RR}
theorem Xl{b:List Addr}{a:Addr}:∀(n:Nat) (c:Addr),b[n]?=some c->(b++[a])[n]?=some c:=λn c h=>by
 rw[zC (zq.mp h).1];exact h
theorem Jz{H F:Hp}{b:List Addr}{a:Addr}{h:HO}(g:a∈b)(d:H a=some h){o:HO}(f:∀o u,h≠.frz o u:=by intro _ _ z;cases z):Gr H F b (upd H a o) F b :=
 ⟨λ_ _ _ _ _=>rfl,Same.refl F,⟨[],by simp,λ_ h=>nomatch h⟩,λc u e hn _=>by rw[aQ (λz=>hn (by rw[z];exact g))];exact e,λc e=>by
  by_cases h:c=a
  ·subst h;rw[cg] at e;cases e
  ·rwa [aQ h] at e,λc i u e=>by rw[aQ (λz=>by rw[z,d] at e;cases e;exact f _ _ rfl)];exact e⟩
end
def mq(K:Frag)(mg:Str->Option Value)(x:Str)(ls:List (List Nat)):Prop:=∃(a:Addr) (o:Obj) (b:Array Value) (n:Nat),mg x=some (.ref a)/\K.lookup a=some o/\o.cls=.type "tuple"/\o.data=.seq b n/\b.size<=sizeLine/\aW (ls.map λl=>V.str (S l)) b.toList
theorem Rps.texts{K:Frag}{F:Hp}{a:List Addr}:∀ls:List (List Nat),Rps K F a (ls.map λl=>V.str (S l)) (ls.map D.str)
 | []=>Rps.nil
 |l::ls=>Rps.cons Rp.str (Rps.texts ls)
theorem mD{X:Cx}{md:List Md}{P:Pt}{x:Str}{ls:List (List Nat)}{b:Pos}(h:mq X.K X.mg x ls)(j:Gl X x:=by rfl)(f:(x == ("__debug__":Str))=false:=by decide):VE X md P (.Name x b) (mC (.tup (ls.map D.str))):=by
 obtain⟨a,o,c,n,g,i,h1,h2,h3,h4⟩:=h
 refine(HN (v:=.ref a) ⟨_,g,rfl⟩ j f).imp λσ H Q q=>?_
 obtain⟨ρ,O,F,l,d,m,r,s,e,k⟩:=q;cases e;exact k _ H F l Gr.refl r (Rp.mkT (.inr ⟨o,c,n,i,h1,h2,h3,h4⟩) (Rps.texts ls))
theorem b8{α:Type}{p:List α->Prop}(h:p []):∀us:List α,us.length=0->p us:=λus e=>by
 cases us with
 |nil=>exact h
 |cons a b=>cases e
theorem bh{α:Type}{p:List α->Prop}{n:Nat}(h:∀a,∀us:List α,us.length=n->p (a::us)):∀us:List α,us.length=n+1->p us:=λus e=>by
 cases us with
 |nil=>cases e
 |cons a b=>exact h a b (Nat.succ.inj e)
section
variable {prog:Program}{w:World}{κ:Type}[DecidableEq κ]{knd:HeapKind prog w κ}{A:Around}{E:Value->Shared->Prop}{s:Shared}
end
section
variable {X:Cx}{pins:List (Addr×Obj)}{σ:St}{H:Hp}{s:Shared}{a b:Addr}{v:V}{r:Value}{kvs:List (List Key×V)}{k:List Key}{A:Around}{E:Value->Shared->Prop}
end
section
variable {K:Frag}{mg:Str->Option Value}{O:aq}{H F H' F':Hp}{as as':List Addr}
theorem RlO.snocO{a:Addr}{o:Ob}(r:RlO K mg O H F as)(j:F a=none)(i:a∉as)(h:ObR K mg H F (as++[a]) a o):RlO K mg (O++[o]) H F (as++[a]):=by
 refine⟨r.fh,r.fd,jj.mpr ⟨r.nd,by simp,λc b d hd=>by rw[zt.mp hd];exact λz=>i (z ▸ b)⟩,by rw[zu,zu,r.len];rfl,λc b=>?_,λn c u b f=>?_⟩
 ·rcases zE.mp b with b | b
  ·exact r.fa c b
  ·rw[zt.mp b];exact j
 ·by_cases g:n<as.length
  ·rw[zC g] at b;rw[zC (by rw[<-r.len];exact g)] at f;exact(r.ob n c u b f).keep rfl (Same.refl F) Xl
  ·have hn':n=as.length:=by
    have:=(zq.mp b).1
    rw[zu,jd] at this;omega
   subst hn';rw[zK (zc _),Nat.sub_self] at b;rw[r.len,zK (zc _),Nat.sub_self] at f;cases b;cases f;exact h
theorem RlO.mutG{n:Nat}{a:Addr}{o:Ob}{h:HO}(r:RlO K mg O H F as)(d:as[n]?=some a)(l:ObR K mg (upd H a h) F as a o):RlO K mg (O.set n o) (upd H a h) F as:=by
 have q:=zH d;refine⟨λc u e=>?_,r.fd,r.nd,by rw[jf];exact r.len,r.fa,λm c u f b=>?_⟩
 ·rw[aQ (λz=>by rw[z,r.fa a q] at e;cases e)];exact r.fh c u e
 ·by_cases g:m=n
  ·subst g;rw[d] at f;cases f
   have i:m<O.length:=by rw[<-r.len];exact(zq.mp d).1
   rw[zM i] at b;cases b;exact l
  ·rw[zv (Ne.symm g)] at b
   refine(r.ob m c u f b).keep (aQ λz=>g ?_) (Same.refl F) λ_ _ h=>h
   obtain⟨t,j⟩:=zq.mp f;obtain⟨x,k⟩:=zq.mp d;exact(List.getElem_inj r.nd).mp (j.trans (z.trans k.symm))
theorem RlO.unF{p:Addr}(r:RlO K mg O H F as)(a:H p=none):F p=none:=by
 cases e:F p with
 |none=>rfl
 |some o=>rw[r.fh p o e] at a;cases a
theorem Gr.snoc{p:Addr}{o:HO}(b:H p=none):Gr H F as (upd H p o) F (as++[p]):=
 ⟨λ_ _ _ _ _=>rfl,Same.refl F,⟨[p],rfl,λa h=>by rw[zt.mp h];exact b⟩,λa u e _ _=>by rw[aQ (cI e b)];exact e,λa e=>by
  by_cases h:a=p
  ·subst h;exact b
  ·rwa [aQ h] at e,λa c u e=>by rw[aQ (cI e b)];exact e⟩
end
section
variable {X:Cx}{md:List Md}{P:Pt}{R:RR}
end
section
variable {X:Cx}
end
section
variable {X:Cx}{md:List Md}{P:Pt}{R:RR}
end
section
variable {K:Frag}{mg:Str->Option Value}{O:aq}{H F:Hp}{as:List Addr}
end
section
variable {X:Cx}{md:List Md}{P:Pt}{R:RR}
end
section
variable {X:Cx}{md:List Md}{P:Pt}{R:RR}
end
end L2
namespace L2
open PySem PySem.Spec PyProof.Rows PySem.W PySem.Calls
section
variable {prog:Program}{w:World}{A:Around}{E:Value->Shared->Prop}{s:Shared}{a:Addr}{vs out:List Value}{p:Array Nat}
end
section
variable {X:Cx}
end
structure JB(mg:Str->Option Value):Prop extends Blt mg where
 sorted_:mg "sorted" = none
end L2
namespace L2
open PySem PySem.Spec PyProof.Rows
abbrev Xm(h:Heap)(z TI TO T:Addr)(b:Bool):Prop :=
 h.get? z=some {cls:=.type "zip",dict:=none,data:=.fields #[rawInt T,.bool b,.bool false,.ref TI,.ref TO],slots:=#[]}
section
variable {prog:Program}{w:World}{A:Around}{E:Value->Shared->Prop}{s:Shared}
structure ZS(base:Nat)(h:Heap)(z TI TO i1 i2 l1 l2 S:Addr)(xs ys acc:Array Value)(c i:Nat):Prop where
 zi:(IsZip h z TI TO .none/\∃a b,IsPair h TO a b)\/∃T b o,Xm h z TI TO T b/\h.get? T=some o/\T∉[z,TO,i1,i2,S]
 ti:IsPair h TI (.ref i1) (.ref i2)
 it1:h.IsListIter i1 l1 i
 it2:h.IsListIter i2 l2 i
 a1:h.IsList l1 xs
 a2:h.IsList l2 ys
 ls:h.get? S=some {cls:=.type "list",dict:=none,data:=.seq acc c,slots:=#[]}
 sz:acc.size=i
 tl:TO<h.objs.size
 nd:acc.toList.Nodup
 ts:∀(j:Nat) (v:Value),acc[j]?=some v->∃(T:Addr) (x y:Value),v=Value.ref T/\xs[j]?=some x/\ys[j]?=some y/\IsPair h T x y/\T∉[z,TO,i1,i2,S]/\base<=T
variable {R:PySem.Result->Shared->Prop}
end
section
variable {X:Cx}
end
section
variable {X:Cx}{md:List Md}{P:Pt}
end
section
end
end L2
namespace L2
open PySem PySem.Spec PyProof.Rows PySem.W
section
variable {X:Cx}{md:List Md}{P:Pt}
end
end L2
namespace L2
open PySem PySem.Spec PyProof.Rows
section
variable {X:Cx}{md:List Md}{P:Pt}{R:RR}
variable {elts:List Expr}{x1:Nat}{tpos:Pos}{a elt:Expr}{ifs:List Expr}{scope:Scope}{p pos pe:Pos}{m:M D}{g:MG}{t:M Bool}{e:M D}
end
section
variable {X:Cx}{md:List Md}{P:Pt}{R:RR}{tg:Expr}
end
structure QCc(mg:Str->Option Value):Prop extends JB mg where
 reversed_:mg "reversed" = none
end L2
namespace L2
open PySem PySem.Spec PyProof.Rows PySem.W
def mdI:Option Int->List Int->Option Int
 |b,[]=>b
 |none,n::r=>mdI (some n) r
 |some m,n::r=>mdI (some (if n<m then n else m)) r
def MdV(d v:Value):Option Int->Prop
 |none=>v=d
 |some m=>∃t,v=.int m t
def MdB(bs:Array Value):Option Int->Prop
 |none=>bs = #[]
 |some m=>∃t,bs = #[.int m t,.int m t]
section
variable {prog:Program}{w:World}{A:Around}{E:Value->Shared->Prop}
theorem Xn{a:String}{b:Builtin}{h:List Value}{g:List (Str×Value)}{s:Shared}{Q:Value->Shared->Prop}(l:builtinKind a=none)(k:plainId a=true)(m:entryFor table a=some b)(j:argsOk a ⟨h,g⟩)
  (c0:wpAny (model prog w) A.in1 (b ⟨h,g⟩) (λi d=>match i with
   | .done f=>(match(Except.ok f:Result) with | .ok (.ret v)=>Q v d | .ok _=>False | .error e=>E e d)
   | .again c=>c.quiet=true/\codeAny (model prog w) A c (λr d=>match r with | .ok (.ret v)=>Q v d | .ok _=>False | .error e=>E e d) d) E s):
  wpAny (model prog w) A (call (.builtin a) h g) Q E s:=by
 refine wpAny_call (codeAny_call_builtin k m ?_);simp only[checkBuiltinCall,l]
 cases g0:Manifest.signature? a with
 |none=>exact zb c0
 |some sg =>
  simp only[argsOk,g0] at j;have z:Bind.checkArgs a sg ⟨h,g⟩=pure ():=j;show wpAny _ A.in1 (Bind.checkArgs a sg ⟨h,g⟩) _ _ s;rw[z];exact zb c0
theorem Xo{n m:Int}{t u:Tok}{s:Shared}{Q:Value->Shared->Prop}(q:Q (.bool (decide (n<m))) s):wpAny (model prog w) A (richCompare .Lt (.int n t) (.int m u)) Q E s :=
 CmpOf.ints_lt (A:=A) (P:=λi v=>∃t,v=.int (if i=0 then n else m) t) (λi=>if i=0 then n else m) (λ_ _ z=>z) 0 1 _ _ s Q E ⟨t,rfl⟩ ⟨u,rfl⟩ q
theorem Xp{R:Result->Shared->Prop}{l i0 S:Addr}{its:List Value}{d:Value}(hh:A.in1.handled=none)(n1:l≠i0)(n2:S≠i0)(n3:S≠l):
  ∀(us:List Value) (ns:List Int) (pre:List Value) (b:Option Int) (bs:Array Value) (s:Shared) (c:Nat),its=pre++us->aW (ns.map V.int) us->s.heap.IsListIter i0 l pre.length->s.heap.IsList l its.toArray->MdB bs b ->
   s.heap.get? S=some {cls:=.type "list",dict:=none,data:=.seq bs c,slots:=#[]} ->
   (∀v h' tk,MdV d v (mdI b ns)->(∀x o,x≠i0->x≠S->s.heap.get? x=some o->h'.get? x=some o)->R (.ok (.ret v)) {s with heap:=h',toks:=tk}) ->
   codeAny (model prog w) A (.builtin "min.loop" ⟨[.ref i0,.none,.ref S],[("default",d)]⟩) R s:=by
 have W:=Walks.list (prog:=prog) (w:=w) hh i0 l n1 its.toArray
 have nm:(toString "min" ++ toString ".loop":String) = "min.loop":=by decide
 have nS:S∉[i0]:=λz=>n2 (zt.mp z)
 have Q:∀x:Addr,x≠i0->x∉[i0]:=λx z y=>z (zt.mp y)
 intro us
 induction us with
 |nil =>
  intro ns pre b bs s c e rv it T G H O
  have ens:ns=[]:=by
   cases ns with
   |nil=>rfl
   |cons=>cases rv
  subst ens
  have U:pre.length=its.toArray.size:=by rw[e];simp
  rw[U] at it;refine jc PySem.F.entry_min_loop ?_;rw[Around.under_plainId PySem.F.plain_min_loop _];show wpAny _ A.in1 (seqItems? (.ref S) >>= _) _ _ s;refine za (wpAny_seqItems H rfl ?_);show wpAny _ A.in1 (tryCatch (pyNext (.ref i0)) _ >>= _) _ _ s;refine za (wpAny_tryCatch (W.done s _ _ ⟨it,T⟩ λh1 tk kp=>?_));have h:=kp S _ nS H
  cases b with
  |none =>
   have g:bs = #[]:=G;subst g;show wpAny _ A.in1 (rule _ >>= _) _ _ _;refine za (zX ?_);exact zb (O d h1 tk rfl λx o B L q=>kp x o (Q x B) q)
  |some m =>
   obtain⟨t,g⟩:=G;subst g;show wpAny _ A.in1 (updateSeq S (λ_=>#[]) >>= _) _ _ _;refine za ?_;refine jo h rfl (za (wpAny_letGo (zb ?_)))
   exact O (.int m t) _ tk ⟨t,rfl⟩ λx o B L q=>(jl _ _ (Ne.symm L)).trans (kp x o (Q x B) q)
 |cons u us ih =>
  intro ns pre b bs s c e rv it T G H O
  cases ns with
  |nil=>cases rv
  |cons n ns =>
   have rv':aW (V.int n::ns.map V.int) (u::us):=rv
   obtain⟨ru,Z⟩:RelV (.int n) u/\aW (ns.map V.int) us:=by
    cases rv' with
    |cons a b=>exact⟨a,b⟩
   obtain⟨i,rfl⟩:=ru
   have U:pre.length<its.toArray.size:=by rw[e];simp
   have e':its=(pre++[Value.int n i])++us:=by rw[e];simp
   have eg:its.toArray[pre.length]?=some (Value.int n i):=by rw[e];simp
   refine jc PySem.F.entry_min_loop ?_;rw[Around.under_plainId PySem.F.plain_min_loop _];show wpAny _ A.in1 (seqItems? (.ref S) >>= _) _ _ s;refine za (wpAny_seqItems H rfl ?_);show wpAny _ A.in1 (tryCatch (pyNext (.ref i0)) _ >>= _) _ _ s;refine za (wpAny_tryCatch (W.item pre.length s _ _ U ⟨it,T⟩ λv h1 tk hv st kp=>?_));rw[eg] at hv;cases hv;have h:=kp S _ nS H
   have r:∀(h2:Heap) (y:Addr) (o:Obj),y≠S->h2.get? y=some o->∀f,(h2.update S f).get? y=some o:=λh2 y o z q f=>(jl _ _ (Ne.symm z)).trans q
   have go:∀(P:Option Int) (k:Array Value) (h2:Heap) (I:Nat) (X:Nat),MdB k P->mdI P ns=mdI b (n::ns)->h2.get? S=some {cls:=.type "list",dict:=none,data:=.seq k X,slots:=#[]} ->
     (∀x o,x≠S->h1.get? x=some o->h2.get? x=some o)->codeAny (model prog w) A (.builtin "min.loop" ⟨[.ref i0,.none,.ref S],[("default",d)]⟩) R {s with heap:=h2,toks:=I}:=λP k h2 I X q1 q2 q3 q4=>by
    have J:=W.frame _ h1 h2 st λx C o q=>q4 x o (λz=>by
     rcases zk.mp C with rfl | C
     ·exact n2 z.symm
     ·rcases zk.mp C with rfl | C
      ·exact n3 z.symm
      ·cases C) q
    refine ih ns (pre++[Value.int n i]) P k _ X e' Z (by rw[zu];exact J.1) J.2 q1 q3 λv h3 Y B L=>?_
    exact O v h3 Y (q2 ▸ B) λx o y1 y2 q=>L x o y1 y2 (q4 x o y2 (kp x o (Q x y1) q))
   cases b with
   |none =>
    have g:bs = #[]:=G;subst g;show wpAny _ A.in1 (updateSeq S (λ_=>#[Value.int n i,Value.int n i]) >>= _) _ _ _;refine za ?_;refine jo h rfl ?_;rw[nm];exact zb ⟨plainId_quiet PySem.F.plain_min_loop _,go (some n) _ _ _ _ ⟨i,rfl⟩ rfl (Heap.get?_update_self _ h rfl) λx o z q=>r _ x o z q _⟩
   |some m =>
    obtain⟨t,g⟩:=G;subst g;show wpAny _ A.in1 (tryCatch (holding [Value.int n i,Value.int n i] (richCompare .Lt (.int n i) (.int m t) >>= _)) _ >>= _) _ _ _;refine za (wpAny_tryCatch (zP (za (Xo ?_))));refine za (zP (wpAny_truthy_bool ?_));refine za (wpAny_letGo (zb ?_))
    by_cases j:n<m
    ·rw[zl j];simp only[if_true];refine za ?_;refine jo h rfl (za (wpAny_letGo ?_));rw[nm];exact zb ⟨plainId_quiet PySem.F.plain_min_loop _,go (some n) _ _ _ _ ⟨i,rfl⟩ (by show _=mdI (some (if n<m then n else m)) ns;rw[if_pos j]) (Heap.get?_update_self _ h rfl) λx o z q=>r _ x o z q _⟩
    ·rw[zd j];simp only[Bool.false_eq_true,if_false];refine za (wpAny_letGo ?_);rw[nm];exact zb ⟨plainId_quiet PySem.F.plain_min_loop _,go (some m) _ _ _ _ ⟨t,rfl⟩ (by show _=mdI (some (if n<m then n else m)) ns;rw[if_neg j]) h λx o z q=>q⟩
end
section
variable {X:Cx}{md:List Md}{P:Pt}{R:RR}
def uH:List D->Option D
 | [.lst ds]=>(lq ds).map λns=>match mdI none ns with
  |some m=>.int m
  |none=>.non
 | _=>none
theorem Xq(a d:Value):argsOk "min" ⟨[a],[("default",d)]⟩:=by unfold argsOk;kernel_rfl
theorem Xr(j:X.calm=true){pins:List (Addr×Obj)}{s:Shared}{σ:St}{H:Hp}{a:Addr}{ns:List Int}{Q:VK}(I:Inv X pins σ H s)(i:SqL X.K H a (ns.map V.int))(q:Q (match mdI none ns with | some m=>.int m | none=>.non) H):
  wpAny (model X.prog X.w) X.A (call (.builtin "min") [.ref a] [("default",.none)]) (EP X pins σ Q) X.xe s:=by
 obtain⟨its,rv,g,_⟩:=I.list i;have f:=g.isList
 have la:a<s.heap.objs.size:=by obtain⟨_,z,_⟩:=f;exact zj z
 refine Xn PySem.F.kind_min PySem.F.plain_min PySem.F.entry_min (Xq _ _) ?_;show wpAny _ X.A.in1 (Builtin.Builtins.bindParams "min" ["key","default"] 0 ⟨[],[("default",.none)]⟩ >>= _) _ _ s;refine za (wpAny_of_eq (show _=pure [none,some Value.none] from rfl) ?_);refine za (zb ?_);refine za (wpAny_pyIter_list f ?_);refine za (wpAny_newObj_type ?_);rw[show(toString "min" ++ toString ".loop":String) = "min.loop" by decide];have sz:(s.heap.push {cls:=.type "list_iterator",data:=.fields #[.ref a,.int 0 0]}).objs.size=s.heap.objs.size+1:=Heap.size_push ..
 refine zb ⟨plainId_quiet PySem.F.plain_min_loop _,Xp (its:=its) (l:=a) (i0:=s.heap.objs.size) (d:=.none) (I.ok.hd j) (zp la) (Nat.ne_of_gt (by rw[sz];exact zY _)) (Nat.ne_of_gt (by rw[sz];exact je la)) its ns [] none #[] _ 0 rfl rv
  ⟨_,zm _ (zw _ rfl),rfl,rfl⟩ ((f.push _).push _) rfl (zw _ rfl) λv h1 tk c kp=>?_⟩
 have h:∀b o,s.heap.get? b=some o->h1.get? b=some o:=λb o z=>kp b o (zp (zj z)) (zp (by rw[sz];exact je (zj z))) (zm _ (zm _ z))
 refine⟨_,H,I.kept (t':=tk) h,?_,q⟩
 cases e:mdI none ns with
 |none =>
  rw[e] at c;exact c
 |some m =>
  rw[e] at c;exact c
theorem Xu{p b i h:Pos}{j:Nat}{e:Expr}{m:M D}(C:X.calm=true)(x:X.mg "min" = none)(E:SE X md P e m)(y:Gl X "min":=by rfl)(t:starEach [e] X.env=(false,eval e X.env)::starEach [] X.env:=by exact cV rfl)(f:(backTo b (starEach [e] X.env)).any (·.1)=false:=by exact dW rfl)
  (B:backTo b (starEach [e] X.env)=(false,eval e X.env)::backTo b (starEach [] X.env):=by rfl):
  OE X md P (.Call (.Name "min" p) [e] [⟨some "default",.Constant .none j i,h⟩] b) (bx uH (aj m au)):=by
 intro pins s σ H Q I q;refine wpAny_Call_Name_kw (j6 I y x boot_min ?_ (by decide) (by decide));have q':=yc (ms:=[.s]) q;refine callWith_kw (thn ((aH E aD t) b pins s σ H _ I q') λus s1 ⟨vs,H1,I1,r1,q1⟩=>?_) B f;refine kws_cons (Constant_none (kws_nil ?_));obtain⟨O,F,T,L,d,r,c,e,k⟩:=q1;unfold uH at e;split at e
 ·rename_i G;obtain⟨v,rfl,n⟩:=c.one;obtain⟨a,J,rfl,h1,h2⟩:=n.list r.fh;obtain⟨u,rfl,g⟩:=vals1 r1;cases g
  cases hi:lq G with
  |none=>rw[hi] at e;cases e
  |some ns =>
   rw[hi] at e;cases e;have l:=h2.ints hi;refine Xr C I1 (ns:=ns) (by rw[<-l];exact h1.sq) ?_
   cases em:mdI none ns with
   |none =>
    dsimp only at k;rw[em] at k;exact cQ r k rfl Rp.non
   |some m =>
    dsimp only at k;rw[em] at k;exact cQ r k rfl Rp.int
 ·cases e
end
def Itd(lo:Int)(n:Nat):It:=⟨λi _=>i<n,λi H x a=>a=H/\x=.int (lo - i),λi _=>n<=i⟩
def iM(lo:Int)(n:Nat):List D:=(List.range n).map λi:Nat=>.int (lo - i)
theorem Xv{P:Program}{w:World}{K:PySem.W.Frag}{tg:Expr}(it:Addr)(lo:Int)(n:Nat):Turn P w K tg (Itd lo n) [it] it (λi h=>IsRangeIter h it (lo+(i:Nat) * (-1)) ((n:Int) - (i:Nat)) (-1)) where
 mem:=by simp
 obj:=λi h st b hb=>by
  have e:b=it:=by simpa using hb
  subst e
  exact⟨_,st,λv z=>by
   have z':Data.fields _=Data.cell v:=z
   cases z'⟩
 keep:=λi h h' st k=>k it (by simp) _ st
 item:=by
  intro X hP hw hK hc i pins s σ H E I hf st hg;subst hP hw hK;obtain⟨f0,f1,f2,f3,f4,f5⟩:=hf it (by simp);have W:=Walks.range (prog:=X.prog) (w:=X.w) (I.ok.hd hc) it lo (-1) n
  refine W.item i s _ _ hg st λv h' tk hv st' kk=>?_
  obtain⟨t,rfl⟩:=hv;have I1:Inv X pins σ H {s with heap:=h',toks:=tk}:=I.turned (λb o hb e=>kk b o (by simpa using hb) e) f0 f1 f3 f4 f5;refine⟨_,rfl,oJ (s:={s with heap:=h',toks:=tk}) (n:="range_iterator") st' rfl rfl (by decide) ⟨.int (lo - i),H,I1,⟨t,?_⟩,⟨rfl,rfl⟩,st',λb hb=>(hf b hb).1⟩⟩;rw[show lo+(i:Int) * (-1)=lo - i by omega]
 done:=by
  intro X hP hw hK hc i pins s σ H E I hf st hg;subst hP hw hK;obtain⟨f0,f1,f2,f3,f4,f5⟩:=hf it (by simp)
  exact wpAny_pyNext_range_end (I.ok.hd hc) st (by have:n<=i:=hg;omega) λh' eb=>⟨rfl,I.turned (t':=s.toks) (λb o hb e=>eb b o hb e) f0 f1 f3 f4 f5⟩
 self:=λ_ _ _ _ _ st h=>wpAny_pyIter_rangeiter st h
section
variable {X:Cx}{tg:Expr}{md:List Md}{P:Pt}
theorem JC(a b:Int):Builtin.Range.rangeSize a b (-1)=if a>b then a - b else 0:=by
 unfold Builtin.Range.rangeSize;rw[if_neg (by decide)]
 split
 ·rw[show(-(-1:Int))=1 by decide,Int.ediv_one];omega
 ·rfl
theorem small_down{a b:Int}(f:-(2 ^ 62)<=a)(d:a<2 ^ 62)(hb:-(2 ^ 62)<=b)(c:b<2 ^ 62):Builtin.Range.small a b (-1)=true:=by
 unfold Builtin.Range.small;rw[JC];simp only[Builtin.Range.rangeFitsLong,zr,Bool.or_eq_true,decide_eq_true_eq,beq_iff_eq,show ¬((-1:Int)>0) by decide,if_false]
 split<;>omega
def Xw(b:TA):TI:=λσ H R=>b σ H λa c=>∃i j:Int,a=[.int i,.int j,.int (-1)]/\(-(2 ^ 62)<=i/\i<2 ^ 62/\-(2 ^ 62)<=j/\j<2 ^ 62)/\R (Itd i (i - j).toNat) c
theorem Xx{a b c:Expr}{i:TA}{p f:Pos}(k:Gl X "range")(j:X.mg "range" = none)(m:PA X [a,b,c] i)(hs:starEach [a,b,c] X.env=[(false,eval a X.env),(false,eval b X.env),(false,eval c X.env)]:=by rfl)(g:starEach [b,c] X.env=[(false,eval b X.env),(false,eval c X.env)]:=by rfl):
  PI X tg (.Call (.Name "range" p) [a,b,c] [] f) (Xw i):=by
 intro pins s σ H R I h;refine Call_ (j6 I k j boot_range (PyProof.Rows.callWith_type1 (thn (m f pins s σ H _ I h) λus s1 ⟨vs,H1,I1,r1,q1⟩=>?_) (by rw[hs,g]) (by rw[g];rfl)));obtain⟨lo,d,e,⟨h1,h2,h3,h4⟩,q⟩:=q1;subst e
 cases r1 with
 |cons r rr =>
  cases rr with
  |cons r' rr =>
   cases rr with
   |cons r'' rr =>
    cases rr;obtain⟨t,rfl⟩:=r;obtain⟨u,rfl⟩:=r';obtain⟨v,rfl⟩:=r'';refine call_range_3 (by decide) ?_ (Or.inl (PyProof.noPylong_small (by omega)));refine wpAny_pyIter_range (IsRange.new ..) (small_down h1 h2 h3 h4) ?_
    have J:Inv X pins σ H1 {s1 with heap:=s1.heap.push {cls:=.type "range",data:=.fields #[.int lo t,.int d u,.int (-1) v]},toks:=s1.toks}:=I1.kept λb o e=>zm _ e
    refine⟨(s1.heap.push {cls:=.type "range",data:=.fields #[.int lo t,.int d u,.int (-1) v]}).objs.size,[(s1.heap.push {cls:=.type "range",data:=.fields #[.int lo t,.int d u,.int (-1) v]}).objs.size],_,_,H1,rfl,
     J.kept (t':=s1.toks) λb o e=>zm _ e,Xv _ lo (lo - d).toNat,?_,λb l=>?_,q⟩
    ·have x:lo+((0:Nat):Int) * (-1)=lo:=by simp
     have n:(((lo - d).toNat:Nat):Int) - ((0:Nat):Int)=Builtin.Range.rangeSize lo d (-1):=by rw[JC];split<;>omega
     show IsRangeIter _ _ (lo+((0:Nat):Int) * (-1)) ((((lo - d).toNat:Nat):Int) - ((0:Nat):Int)) (-1);rw[x,n];exact zw _ rfl
    ·have e:b=(s1.heap.push {cls:=.type "range",data:=.fields #[.int lo t,.int d u,.int (-1) v]}).objs.size:=by simpa using l
     subst e;exact J.fpOk (zc _) (J.hok.fresh (zc _))
theorem Xy{K:Frag}{mg:Str->Option Value}{lo:Int}{n:Nat}{H F:Hp}{c:List Addr}:m6 K mg P (Itd lo n) (iM lo n) H F c:=ym (λi d f e=>by
 unfold iM at e;rw[zA] at e
 by_cases a:i<n
 ·rw[List.getElem?_range a] at e;cases e;refine⟨a,λx g y=>?_⟩;obtain⟨b,rfl⟩:=y;exact⟨b,λ_ _ _=>Rp.int⟩
 ·rw[jg (by simpa using a)] at e
  cases e) λf=>by simp[iM,Itd]
def uI(m:M (List D)):M (List D):=λρ O=>(m ρ O).bind λa b=>match a with
 | [.int i,.int j,.int c]=>if c = -1/\i<=1000000000/\-1000000000<=i/\j<=1000000000/\-1000000000<=j then .ok (iM i (i - j).toNat) b else .no
 | _=>.no
theorem c7.three{K:Frag}{H F:Hp}{a:List Addr}{g c b:Md}{vs:List V}{d e f:D}(h:c7 K H F a [g,c,b] vs [d,e,f]):∃v u z,vs=[v,u,z]/\rA K g (λ_=>True) H F a v d/\rA K c (λ_=>True) H F a u e/\rA K b (λ_=>True) H F a z f:=by
 cases vs with
 |nil=>exact h.elim
 |cons v vs =>
  obtain⟨h1,h2⟩:=h;obtain⟨u,z,rfl,h3,h4⟩:=c7.two h2;exact⟨v,u,z,rfl,h1,h3,h4⟩
theorem Xz{a b c:Expr}{p d:Pos}{m:M (List D)}(C:X.mg "range" = none)(G:AE X md P [.s,.s,.s] [a,b,c] m)(E:Gl X "range":=by rfl)(B:starEach [a,b,c] X.env=[(false,eval a X.env),(false,eval b X.env),(false,eval c X.env)]:=by rfl)(g:starEach [b,c] X.env=[(false,eval b X.env),(false,eval c X.env)]:=by rfl):
  VI X md P tg (.Call (.Name "range" p) [a,b,c] [] d) (uI m):=(Xx E C G B g).imp λσ H Q q=>by
 obtain⟨ρ,O,F,U,ds,O',r,s,e,k⟩:=q;obtain⟨es,O1,T,e⟩:=Res.bind_ok e;split at e
 ·rename_i i j c;split at e
  ·rename_i l;cases e;obtain⟨rfl,l⟩:=l;refine⟨ρ,_,F,U,_,_,r,s,T,λZ W Y h I n x=>?_⟩;obtain⟨v,u,z,rfl,f,y,t⟩:=x.three;have R:=(Sv.rp f rfl).unI;have L:=(Sv.rp y rfl).unI;have J:=(Sv.rp t rfl).unI;subst R L J;exact⟨i,j,rfl,⟨by omega,by omega,by omega,by omega⟩,k _ W Y h I n Xy⟩
  ·cases e
 ·cases e
end
section
variable {X:Cx}{pins:List (Addr×Obj)}{σ:List (Option V)}{H:Hp}{s:Shared}{a:Addr}{xs:List (List Key×V)}{o:Obj}
theorem Inv.reword{u:HO}(I:Inv X pins σ H s)(ha:H a≠none)(hn:∀ys,H a≠some (.tup ys))(ho:∀y,H a≠some (.own y))(hb:∀ps,H a≠some (.tbl ps))(hf:∀o u,X.H₀ a≠some (.frz o u))(new:cC X.prog X.w (upd H a u) s.heap a u):Inv X pins σ (upd H a u) s where
 ok:=I.ok
 os:=I.os
 bare:=I.bare
 base:={
  keep:=I.base.keep
  slot:=I.base.slot
  free:=λb o' q n hx=>by
   have z:=I.base.free b o' q n hx;rw[aQ (by intro e;have w:=z;rw[e] at w;exact ha w)];exact z
  there:=I.base.there
  tups:=λb ys q=>by
   have z:=I.base.tups b ys q;rw[aQ (by intro e;have w:=z;rw[e] at w;exact hn ys w)];exact z
  frzs:=λb o' u' q=>by
   have z:=I.base.frzs b o' u' q;rw[aQ (by intro e;have w:=q;rw[e] at w;exact hf o' u' w)];exact z
  tbls:=λb ps q=>by
   obtain⟨m,z⟩:=I.base.tbls b ps q
   exact⟨m,by rw[aQ (by intro e;have w:=z;rw[e] at w;exact hb _ w)];exact z⟩}
 loc:=I.loc
 cell:=I.cell
 free:=by rw[aQ (by intro e;have w:=I.free;rw[e] at w;exact ha w)];exact I.free
 freeC:=λx c q=>by rw[aQ (by intro e;have w:=I.freeC x c q;rw[e] at w;exact ha w)];exact I.freeC x c q
 pin:=λp hp=>by
  obtain⟨h1,h2,h3,h4,h5⟩:=I.pin p hp;exact⟨h1,by rw[aQ (by intro e;have w:=h2;rw[e] at w;exact ha w)];exact h2,h3,h4,h5⟩
 hok:=λb u' q=>by
  by_cases e:b=a
  ·subst e;rw[cg] at q;cases q;exact new
  ·rw[aQ e] at q
   exact(I.hok b u' q).stay (λ_ _ _ z=>z) (λc z=>by rw[aQ (by intro e;have w:=z;rw[e] at w;exact ho b w)];exact z) λc ys z=>by rw[aQ (by intro e;have w:=z;rw[e] at w;exact hn ys w)];exact z
 len:=I.len
end
section
variable {prog:Program}{w:World}{A:Around}{E:Value->Shared->Prop}{s:Shared}
theorem XC{d:Addr}{o:Obj}{es:Array DictEntry}{ep:Nat}{Q:Value->Shared->Prop}(hd:(d == sysModules)=false)(b:s.heap.get? d=some o)(f:o.ExactDict)(a:o.data=.dict es ep)
  (g:Q (.ref s.heap.objs.size) {s with heap:=s.heap.push {cls:=.type "dict_keyiterator",data:=.fields #[.ref d,.int 0 0,.int es.size 0,.int ep 0]}}):
  wpAny (model prog w) A (pyIter (.ref d)) Q E s:=by
 have c:s.TypeIs (.ref d) "dict":=⟨o,b,f.1⟩;refine wpAny_pyIter_slot c PySem.F.slot_dict_iter (wpAny_call_entry PySem.F.slot_dict_iter c PySem.F.entry_dict_iter ?_ (PySem.F.args_dict_iter_1 _));unfold Builtin.«dict.__iter__»;refine za ?_;unfold Builtin.Dict.dictSlotNone;refine za (wpAny_notOrdered_dict c ?_);show wpAny _ _ (pure (Value.ref d)) _ _ s;refine zb ?_;show wpAny _ _ (Builtin.Dict.showsAll d >>= _) _ _ s;unfold Builtin.Dict.showsAll;rw[if_neg (by rw[hd];exact zf)];refine za (zb ?_);refine za (wpAny_dictEntries b a ?_);refine za (wpAny_dictEpoch b a ?_);refine za (wpAny_newObj_type (zb ⟨_,rfl,"dict_keyiterator",_,⟨_,zw _ rfl,rfl⟩,PySem.F.slot_dict_keyiterator_next.lookup,?_⟩))
 simpa [rawInt] using g
theorem XD{it d:Addr}{i n ep:Nat}{j:Obj}{es:Array DictEntry}{Q:Option Value->Shared->Prop}(a:s.heap.IsKeyIter it d i n ep)(b:s.heap.get? d=some j)(c:j.data=.dict es ep)(hsz:es.size=n)(h:i<n)
  (l:∀h',h'.IsKeyIter it d (i+1) n ep->Heap.SameBut it s.heap h'->Q (some (es[i]'(by omega)).key) {s with heap:=h'}):
  wpAny (model prog w) A (pyNext (.ref it)) Q E s:=by
 obtain⟨o,g,k,hd⟩:=id a;unfold pyNext
 refine za (wpAny_attempt (wpAny_callSpecial?_slot (name:=Str.ofString "__next__") a.typeIs PySem.F.slot_dict_keyiterator_next
  (wpAny_call_entry PySem.F.slot_dict_keyiterator_next a.typeIs PySem.F.entry_dict_keyiterator_next ?_ (PySem.F.args_dict_keyiterator_next_1 _))))
 refine za (zb ?_);refine za ?_;refine za ?_
 first | refine za (wpAny_typeNameOfWhole_keyiter a.typeIs (zb ?_)) | refine za (wpAny_typeNameOf_keyiter a.typeIs (zb ?_))
 refine za (wpAny_fieldsOf g hd ?_)
 have f:Builtin.Dict_items.ownsTuple "dict_keyiterator" = false:=by decide
 simp only[f,Bool.false_eq_true,if_false];show wpAny _ _ (if(Value.ref d == Value.none)=true then _ else _) _ _ s;rw[if_neg (show ¬((Value.ref d == Value.none)=true) from zf)];refine za (zb ?_);refine za (wpAny_dictEntries b c ?_);rw[if_neg (by rw[hsz];simp)];refine za (zb ?_);refine za (wpAny_dictEpoch b c ?_);rw[if_neg (by simp)];refine zb ?_
 have hlt':i<es.size:=by rw[hsz];exact h
 simp only[show ¬((i:Int)<0) from by omega,if_false,Int.toNat_natCast,Array.getElem?_eq_getElem hlt'];refine za ?_
 first | refine za (wpAny_typeNameOfWhole_keyiter a.typeIs (zb ?_)) | refine za (wpAny_typeNameOf_keyiter a.typeIs (zb ?_))
 refine za (wpAny_isOneOf_keyiter a.typeIs ?_);show wpAny _ _ (setField (.ref it) 1 (rawInt ((i:Int)+1)) >>= _) _ _ s;refine za (wpAny_setField g hd (by simp) ?_);have hit':(s.heap.update it (Obj.mapFields (·.setIfInBounds 1 (rawInt ((i:Int)+1))))).IsKeyIter it d (i+1) n ep :=
  ⟨_,Heap.get?_update_self _ g (Obj.isFreed_of_fields (Obj.data_mapFields hd _)),(Obj.cls_mapFields ..).trans k,by rw[Obj.data_mapFields hd];simp[rawInt]⟩
 refine za (zP ?_);refine za (wpAny_isOneOf_keyiter (s:={s with heap:=s.heap.update it (Obj.mapFields (·.setIfInBounds 1 (rawInt ((i:Int)+1))))}) hit'.typeIs ?_);show wpAny _ _ (pure es[i].key) _ _ _;exact zb (zb ⟨_,rfl,zb (l _ hit' (Heap.SameBut.update ..))⟩)
theorem XH{it d:Addr}{i n ep:Nat}{k:Obj}{es:Array DictEntry}{Q:Option Value->Shared->Prop}(q:A.handled=none)(c:s.heap.IsKeyIter it d i n ep)(f:s.heap.get? d=some k)(g:k.data=.dict es ep)(hsz:es.size=n)(j:n<=i)
  (r:∀h',Heap.ExtBut it s.heap h'->Q none {s with heap:=h'}):wpAny (model prog w) A (pyNext (.ref it)) Q E s:=by
 obtain⟨o,l,t,hd⟩:=id c;unfold pyNext
 refine za (wpAny_attempt (wpAny_callSpecial?_slot (name:=Str.ofString "__next__") c.typeIs PySem.F.slot_dict_keyiterator_next
  (wpAny_call_entry PySem.F.slot_dict_keyiterator_next c.typeIs PySem.F.entry_dict_keyiterator_next ?_ (PySem.F.args_dict_keyiterator_next_1 _))))
 refine za (zb ?_);refine za ?_;refine za ?_
 first | refine za (wpAny_typeNameOfWhole_keyiter c.typeIs (zb ?_)) | refine za (wpAny_typeNameOf_keyiter c.typeIs (zb ?_))
 refine za (wpAny_fieldsOf l hd ?_)
 have h:Builtin.Dict_items.ownsTuple "dict_keyiterator" = false:=by decide
 simp only[h,Bool.false_eq_true,if_false];show wpAny _ _ (if(Value.ref d == Value.none)=true then _ else _) _ _ s;rw[if_neg (show ¬((Value.ref d == Value.none)=true) from zf)];refine za (zb ?_);refine za (wpAny_dictEntries f g ?_);rw[if_neg (by rw[hsz];simp)];refine za (zb ?_);refine za (wpAny_dictEpoch f g ?_);rw[if_neg (by simp)];refine zb ?_
 have hge':es.size<=i:=by rw[hsz];exact j
 simp only[show ¬((i:Int)<0) from by omega,if_false,Int.toNat_natCast,Array.getElem?_eq_none hge'];refine za ?_
 first | refine za (wpAny_typeNameOfWhole_keyiter c.typeIs (zb ?_)) | refine za (wpAny_typeNameOf_keyiter c.typeIs (zb ?_))
 show wpAny _ _ (setField (.ref it) 0 .none >>= _) _ _ s;refine za (wpAny_setField l hd (by simp) ?_);show wpAny _ _ (newExc (.type "StopIteration") [] >>= _) _ _ _;refine za ?_;simp only[newExc,newTuple];refine za (wpAny_newObj_type ?_ (by size_fits));refine za (m:=firstArgMember _ _) (wpAny_of_eq (a:=Value.none) (by first | rfl | (simp only[firstArgMember];rfl)) ?_);refine wpAny_newObj_type ?_ (by size_fits);simp only[raiseNew];refine za (wpAny_handled ?_);rw[show A.in1.handled=none from q];refine za (zb (wpAny_throw ?_));refine za (wpAny_isInstance (T:="StopIteration") (b:=true) ⟨_,zw _ rfl,rfl⟩ isSubtype_stop ?_)
 exact zb (r _ (((Heap.SameBut.update ..).extBut.push _).push _))
end
theorem XJ{α β:Type}{R:α->β->Prop}{l:List α}{m:List β}(h:Paired R l m):∀{i:Nat}{x:α}{y:β},l[i]?=some x->m[i]?=some y->R x y:=by
 induction h with
 |nil=>intro i x y h;cases h
 |cons a b ih =>
  intro i x y h1 h2
  cases i with
  |zero=>cases h1;cases h2;exact a
  |succ i=>exact ih h1 h2
section
variable {K:Frag}{mg:Str->Option Value}{O:aq}{H F:Hp}{as:List Addr}
theorem Gr.tupF{b:Addr}{xs:List V}(hb:H b=some (.tup xs))(c:F b=none):Gr H F as H (upd F b (.tup xs)) as :=
 ⟨λa o e _ hd=>aQ (λz=>by rw[z,hb] at e;cases e;cases hd),λa u e=>by rw[aQ (cI e c)];exact e,⟨[],by simp,λ_ h=>nomatch h⟩,λ_ _ h _ _=>h,λ_ h=>h,λ_ _ _ h=>h⟩
theorem RlO.noT{b:Addr}{xs:List V}(r:RlO K mg O H F as)(hb:H b=some (.tup xs)):b∉as:=λd=>by
 obtain⟨n,a,e⟩:=List.mem_iff_getElem.mp d
 have f:n<O.length:=by rw[<-r.len];exact a
 have q:=r.ob n b O[n] (by rw[zx a,e]) (zx f)
 revert q
 cases O[n] with
 |ins c fs=>rintro⟨C,h,gs,_,h2,_⟩;rw[hb] at h2;cases h2
 |ml i=>rintro⟨xs,h1,_⟩;rw[hb] at h1;cases h1
 |dt kvs=>rintro⟨xs,h1,_⟩;rw[hb] at h1;cases h1
 |df kvs=>rintro⟨o,xs,h1,_⟩;rw[hb] at h1;cases h1
 |dk kvs=>rintro⟨xs,h1,_⟩;rw[hb] at h1;cases h1
 |kf kvs=>rintro⟨o,xs,h1,_⟩;rw[hb] at h1;cases h1
 |xc c fs=>rintro⟨C,g,u,_,h1,_⟩;rw[hb] at h1;cases h1
 |gone=>rintro⟨φ,h1⟩;rw[hb] at h1;cases h1
 |dn kvs=>rintro⟨xs,h1,_⟩;rw[hb] at h1;cases h1
 |nf kvs=>rintro⟨o,xs,h1,_⟩;rw[hb] at h1;cases h1
theorem uJ:∀ks:List Key,Rps K F as (ks.map kV) (ks.map km)
 | []=>Rps.nil
 | .inl i::ks=>Rps.cons (show Rp K F as (.int i) (.int i) from rfl) (uJ ks)
 | .inr x::ks=>Rps.cons (show Rp K F as (.str x) (.str x.cps.toList) from by
   show V.str x=V.str (S x.cps.toList)
   rw[show S x.cps.toList=x by cases x;simp[S]]) (uJ ks)
end
section
variable {X:Cx}{md:List Md}{P:Pt}{R:RR}
end
section
variable {K:Frag}{mg:Str->Option Value}{md:List Md}{P:Pt}{ρ:aA}{σ:St}{O:aq}{H F H' F':Hp}{as as':List Addr}
theorem iI.reH{m:Md}{v:V}{d:D}{a:Addr}{h:HO}(q:iI P K H F as m v d)(r:a∈as):iI P K (upd H a h) F as m v d:=by
 cases m with
 |v=>exact q
 |s =>
  rcases q with q | ⟨c,f,n,l,k,j,b,i,g⟩
  ·exact .inl q
  ·exact .inr ⟨c,f,n,l,k,by rw[aQ (λz=>b (by rw[z];exact r))];exact j,b,i,g⟩
 |o =>
  rcases q with⟨h1,q⟩ | ⟨c,f,n,l,k,j,t,b,i,g⟩
  ·exact .inl ⟨h1,q⟩
  ·exact .inr ⟨c,f,n,l,k,by rw[aQ (λz=>b (by rw[z];exact r))];exact j,t,b,i,g⟩
theorem SlO.reH{a:Addr}{h:HO}(s:SlO K md P ρ σ H F as)(b:a∈as):SlO K md P ρ σ (upd H a h) F as :=
 ⟨s.len,s.len',λc p z=>s.pd c p (by
  by_cases e:c=a
  ·rw[e,cg] at z;cases z
  ·rwa [aQ e] at z),λi m d g f=>let ⟨v,q,r⟩:=s.sl i m d g f;⟨v,q,r.reH b⟩,s.inj,s.pin⟩
theorem SlO.obAt{i n:Nat}(s:SlO K md P ρ σ H F as)(e:ρ[i]?=some (some (.ob n))):∃a,as[n]?=some a:=by
 have c:i<md.length:=by rw[<-s.len'];exact(zq.mp e).1
 obtain⟨v,_,q⟩:=s.sl i _ _ (zx c) e
 have b:Rp K F as v (.ob n):=by
  revert q
  cases md[i] with
  |v=>exact λq=>q
  |s =>
   rintro(q | ⟨a,xs,ds,_,z,_⟩)
   ·exact q
   ·cases z
  |o =>
   rintro(⟨_,q⟩ | ⟨a,xs,ds,_,z,_⟩)
   ·exact q
   ·cases z
 obtain⟨a,_,d⟩:=Rp.unO b;exact⟨a,d⟩
end
section
variable {X:Cx}{md:List Md}{P:Pt}{R:RR}
end
section
variable {X:Cx}{md:List Md}{P:Pt}{R:RR}
end
section
variable {prog:Program}{w:World}
end
section
variable {X:Cx}{md:List Md}{P:Pt}{R:RR}
end
section
variable {K:Frag}{mg:Str->Option Value}{O:aq}{H F H' F':Hp}{as as':List Addr}
end
section
variable {X:Cx}{md:List Md}{P:Pt}{R:RR}
end
section
variable {X:Cx}{md:List Md}{P:Pt}{R:RR}
end
section
variable {X:Cx}{md:List Md}{P:Pt}{R:RR}
end
end L2
namespace L2
open PySem PySem.Spec PyProof.Rows PySem.W PySem.Calls
def fP(ss:List Str)(x:Str):List Str:=if x∈ss then ss else ss++[x]
def nC(es:Array (Int×Value)):List Str:=es.toList.map λe=>strOf e.2
def eE(prog:Program)(w:World)(h:Heap)(a:Addr)(ss:List Str)(o:Obj)(es:Array (Int×Value))(ep:Nat)(t:SetTable):Prop :=
 h.get? a=some o/\o.ExactSet/\o.data=.set es ep t/\ElemsOf (PySem.strKind prog w) es.toList/\(nC es).Perm ss/\es.size<scanBound/\t.fits es.size=true/\(es.size=0\/t.plain=false)/\t.led = !w.params.followText "set-order"
def dj(prog:Program)(w:World)(h:Heap)(a:Addr)(ss:List Str):Prop:=∃o b c t,eE prog w h a ss o b c t
section
variable {prog:Program}{w:World}{A:Around}{E:Value->Shared->Prop}{s:Shared}{a:Addr}{ss:List Str}
theorem dj.at{h h':Heap}(x:dj prog w h a ss)(k:∀o,h.get? a=some o->h'.get? a=some o):dj prog w h' a ss :=
 let ⟨o,es,ep,t,h1,r⟩:=x;⟨o,es,ep,t,k o h1,r⟩
theorem dj.len{h:Heap}(x:dj prog w h a ss):ss.length<scanBound:=by
 obtain⟨o,d,f,t,h1,h2,h3,h4,c,b,_⟩:=x;rw[<-c.length_eq];unfold nC;rw[ze];exact b
theorem XM(t:SetTable)(es:Array (Int×Value))(n:Nat)(h:t.plain=false):(relayAll t es n).2.1.plain=false:=by
 unfold relayAll
 split
 ·rename_i b order e;dsimp only
  split
  ·unfold SetTable.relaid SetTable.laid at e
   cases q:SetTable.layClean (SetTable.sizeAbove n - 1) (Array.map (λx=>x.fst) es) with
   |none=>rw[q] at e;cases e
   |some ow =>
    rw[q] at e;cases e;exact h
  ·rfl
 ·rfl
theorem XN(t:SetTable)(es:Array (Int×Value))(n:Nat):(relayAll t es n).2.1.led=t.led:=by
 unfold relayAll
 split
 ·rename_i b order e;dsimp only
  split
  ·unfold SetTable.relaid SetTable.laid at e
   cases q:SetTable.layClean (SetTable.sizeAbove n - 1) (Array.map (λx=>x.fst) es) with
   |none=>rw[q] at e;cases e
   |some ow =>
    rw[q] at e;cases e;rfl
  ·rfl
 ·rfl
theorem XQ(t:SetTable)(n:Nat):(t.orStandIn n).led=t.led:=by
 unfold SetTable.orStandIn
 split<;>rfl
theorem XR(t:SetTable)(es:Array (Int×Value))(h:Int)(x:Value):(layNew t es h x).2.1.led=t.led:=by
 unfold layNew
 split
 ·exact XQ _ _
 ·rfl
theorem JD{h:Heap}{o:Obj}{es:Array (Int×Value)}{ep:Nat}{t:SetTable}(k:h.get? a=some o)(f:o.ExactSet)(hd:o.data=.set es ep t)
  {b:Array (Int×Value)}{t':SetTable} (g:ElemsOf (PySem.strKind prog w) b.toList) (j:(nC b).Perm ss) (hb:b.size<scanBound) (l:t'.fits b.size=true) (d:t'.plain=false) (c:t'.led = !w.params.followText "set-order"):
  (h.update a (Obj.putSet b t')).get? a=some {o with data:=.set b (ep+1) t'}/\dj prog w (h.update a (Obj.putSet b t')) a ss:=by
 have i:(h.update a (Obj.putSet b t')).get? a=some {o with data:=.set b (ep+1) t'}:=by
  have:=Heap.get?_update_self (Obj.putSet b t') k (by rw[putSet_of b t' hd];rfl)
  rw[putSet_of b t' hd] at this;exact this
 exact⟨i,_,b,ep+1,t',i,f,rfl,g,j,hb,l,.inr d,c⟩
theorem JF{g:Bool->Sem Unit}(T:∀(b:Bool) (f:Shared) (Q:Unit->Shared->Prop),Q () f->wpAny (model prog w) A (g b) Q E f)
  {o:Obj}{es:Array (Int×Value)}{ep:Nat}{t:SetTable} (P:s.heap.get? a=some o) (C:o.ExactSet) (hd:o.data=.set es ep t)
  {c:Array (Int×Value)}{t2:SetTable} (k:ElemsOf (PySem.strKind prog w) c.toList) (y:(nC c).Perm ss) (q:c.size<scanBound) (I:t2.fits c.size=true) (x:t2.plain=false) (j:t2.led = !w.params.followText "set-order") {d:Bool}{R:Option Bool->Shared->Prop}
  (h:∀h',Heap.SameBut a s.heap h'->dj prog w h' a ss->R (some true) {s with heap:=h'}):
  wpAny (model prog w) A (do
    storeSet a c t2
    if(!d&&t2.tooFull)=true then do
      g (relayAll t2 c (SetTable.grown c.size)).2.2
      storeSet a (relayAll t2 c (SetTable.grown c.size)).1 (relayAll t2 c (SetTable.grown c.size)).2.1
      pure (some true)
     else pure (some true)) R E s:=by
 refine za (wpAny_storeSet_of P hd ?_ (fits_of_scanBound q));obtain⟨B,L⟩:=JD (prog:=prog) (w:=w) P C hd k y q I x j;have i:=Heap.SameBut.update s.heap a (Obj.putSet c t2)
 split
 ·have u:=relayAll_perm t2 c (SetTable.grown c.size);have n:=relayAll_fits t2 c (SetTable.grown c.size);have l:=XM t2 c (SetTable.grown c.size) x;have m:=XN t2 c (SetTable.grown c.size)
  generalize hRl:relayAll t2 c (SetTable.grown c.size)=U at u n l m ⊢
  obtain⟨r,W,O⟩:=U;dsimp only at u n l m ⊢;have G:ElemsOf (PySem.strKind prog w) r.toList:=k.perm u
  have H:r.size=c.size:=by rw[<-Array.length_toList,u.length_eq,Array.length_toList]
  have F:r.size<scanBound:=by rw[H];exact q
  refine za (T _ _ _ ?_);refine za (wpAny_storeSet_of B rfl ?_ (fits_of_scanBound F));obtain⟨_,J⟩:=JD (prog:=prog) (w:=w) B C rfl G ((u.map _).trans y) F n l (m.trans j);exact zb (h _ (i.trans (Heap.SameBut.update _ a _)) J)
 ·exact zb (h _ i L)
theorem XS{x:Str}{tk:Tok}{Q:Bool->Shared->Prop}(hS:dj prog w s.heap a ss)(I:ss.length+1<scanBound)
  (h:∀h' b,Heap.SameBut a s.heap h'->dj prog w h' a (fP ss x)->Q b {s with heap:=h'}):
  wpAny (model prog w) A (setAddHashed a (.str x tk) ((PySem.strKind prog w).hash x)) Q E s:=by
 obtain⟨o,l,ep,t,R,F,hd,g,P,hb,Y,Z,i⟩:=hS
 have u:(PySem.strKind prog w).is x (.str x tk)=true:=by
  show Value.isStrOf x (.str x tk)=true;simp[Value.isStrOf]
 have hlen:l.size=ss.length:=by rw[<-P.length_eq];unfold nC;rw[ze,Array.length_toList]
 have hb1:l.size+1<scanBound:=by rw[hlen];exact I
 have U:(Value.str x tk).scannable=true:=rfl
 have key:∀e∈l.toList,∀y,(PySem.strKind prog w).is y e.2=true↔strOf e.2=y:=λe X y=>by
  obtain⟨⟨k,hk,_⟩,_⟩:=g e X;obtain⟨t',ht⟩:=Value.isStrOf_shape hk;rw[ht];show Value.isStrOf y (.str k t')=true↔k=y;simp[Value.isStrOf]
 unfold setAddHashed setAddHashedIn;refine zP (za (wpAny_setState_of R hd Y ?_));dsimp only;rw[byScan_of U hb g];simp only[↓reduceIte];unfold setAddByScan;refine za ?_;refine za (zX ?_);refine za (wpAny_setScan_of u R hd Y g ?_)
 cases hr:List.findIdx? (λe=>(PySem.strKind prog w).is x e.2) l.toList with
 |some j =>
  dsimp only;obtain⟨hj,hpj,_⟩:=List.findIdx?_eq_some_iff_getElem.mp hr;have O:x∈ss:=P.mem_iff.mp (zz.mpr ⟨l.toList[j],jp hj,(key _ (jp hj) x).mp hpj⟩);refine zb (zb ?_)
  have e:s = {s with heap:=s.heap}:=by cases s;rfl
  rw[e];exact h s.heap _ (Heap.SameBut.refl a s.heap) ⟨o,l,ep,t,R,F,hd,g,by rw[fP,if_pos O];exact P,hb,Y,Z,i⟩
 |none =>
  dsimp only
  have O:x∉ss:=λO=>by
   obtain⟨e,X,q⟩:=zz.mp (P.mem_iff.mpr O)
   have:=List.findIdx?_eq_none_iff.mp hr e X
   rw[(key e X x).mpr q] at this;exact Bool.noConfusion this
  have hgw:∀(b:Bool) {f:Shared}{T:Unit->Shared->Prop},T () f->wpAny (model prog w) A (match b with | true=>rule "set.scan.the-table-gave-way" | false=>pure ()) T E f :=
   λb f T r=>by cases b<;>first | exact zb r | exact zX r
  have c:=layNew_perm t l ((PySem.strKind prog w).hash x) (.str x tk);have d:=layNew_fits t l ((PySem.strKind prog w).hash x) (.str x tk);have n:=XR t l ((PySem.strKind prog w).hash x) (.str x tk)
  generalize hL:layNew t l ((PySem.strKind prog w).hash x) (.str x tk)=L at c d n ⊢
  obtain⟨H,t1,J,gave⟩:=L;dsimp only at c d n ⊢;rw[Array.toList_push] at c;have B:ElemsOf (PySem.strKind prog w) H.toList:=(g.push u U).perm c
  have W:(nC H).Perm (fP ss x):=by
   rw[fP,if_neg O];refine(c.map λe=>strOf e.2).trans ?_;rw[zW];exact P.append_right _
  have hb1':H.size<scanBound:=by rw[<-Array.length_toList,c.length_eq,zu,Array.length_toList];simpa using hb1
  refine za (hgw _ ?_)
  split
  ·refine za ?_;refine za (m:=hashByValue 8 (.str x tk)) (zb ?_);refine zb ?_;simp only[Bool.false_eq_true,↓reduceIte];refine JF (t2:={t1 with plain:=false}) ?_ R F hd B W hb1' (SetTable.fits_plain_off d) rfl (n.trans i) ?_
   ·intro b f T r;cases b<;>first | exact zb r | exact zX r
   ·intro h' C G;dsimp only;exact zb (h h' _ C G)
  ·rename_i hnp;refine za (zb ?_);simp only[↓reduceIte];refine JF ?_ R F hd B W hb1' d (by simpa using hnp) (n.trans i) ?_
   ·intro b f T r;cases b<;>first | exact zb r | exact zX r
   ·intro h' C G;dsimp only;exact zb (h h' _ C G)
theorem isS(x:Str)(t:Tok):(PySem.strKind prog w).is x (.str x t)=true:=by
 show Value.isStrOf x (.str x t)=true;simp[Value.isStrOf]
theorem map_getD(ns:List Str):(List.range' 0 ns.length).map (λi=>ns.getD i ⟨#[]⟩)=ns:=by
 apply List.ext_getElem
 ·simp
 ·intro i h1 h2;simp[jr,h2]
theorem XX{R:Result->Shared->Prop}{I:Addr}{fp g:List Addr}{G:Array GenState->Array GenState->Prop}{n:Nat}{P:Nat->Value->Prop}{St:Nat->Shared->Prop}(W:WalksS prog w A.in1 I fp g G n P St)(S:Addr)(r:S∉fp)
  (val:Nat->Str) (u:∀i v,P i v->∃t,v=.str (val i) t) (hb:n+1<scanBound):
  ∀(k i:Nat) (s:Shared) (ss:List Str),n - i=k->i<=n->St i s->ss.length<=i->dj prog w s.heap S ss ->
   (∀c,Moved (S::g) G s c->dj prog w c.heap S (((List.range' i (n - i)).map val).foldl fP ss)->R (.ok (.ret .none)) c) ->
   codeAny (model prog w) A (.builtin "set.update.loop" ⟨[.ref S,.ref I],[]⟩) R s:=by
 have q:S∉g:=λh=>r (W.sub _ h)
 have d:∀b∈g,b∈S::g:=λb hb=>zn _ hb
 intro k
 induction k with
 |zero =>
  intro i s ss T U f L C H
  have O:i=n:=by omega
  subst O;refine jc PyProof.Rows.F.entry_set_update_loop ?_;rw[Around.under_plainId PyProof.Rows.F.plain_set_update_loop _];show wpAny _ A.in1 (pyNext (.ref I) >>= _) _ _ s;refine za (W.done s _ _ f λc j=>?_);show wpAny _ A.in1 (ret Value.none) _ _ c;refine zb (H c (j.mono d) ?_);rw[Nat.sub_self]
  exact C.at λo e=>j.heap S _ q e
 |succ k ih =>
  intro i s ss T U f L C H
  have m:i<n:=by omega
  refine jc PyProof.Rows.F.entry_set_update_loop ?_;rw[Around.under_plainId PyProof.Rows.F.plain_set_update_loop _];show wpAny _ A.in1 (pyNext (.ref I) >>= _) _ _ s;refine za (W.item i s _ _ m f λv c X x j=>?_);obtain⟨t,rfl⟩:=u i v X
  have hS':dj prog w c.heap S ss:=C.at λo e=>j.heap S _ q e
  show wpAny _ A.in1 (holding [Value.str (val i) t] (setAdd S (.str (val i) t)) >>= _) _ _ c;refine za (zP ?_);unfold setAdd;refine zP ?_;refine za ((PySem.strKind prog w).pyHash (k:=val i) (isS _ _) ?_)
  refine XS (s:={c with toks:=c.toks+1}) hS' (by omega) λY b l Q=>?_
  refine zb ⟨plainId_quiet PyProof.Rows.F.plain_set_update_loop _,ih (i+1) _ (fP ss (val i)) (by omega) m (W.frame _ c _ _ x (Nat.le_succ _) λb hb o e=>?_) ?_ Q λJ y B=>?_⟩
  ·rw[l.2 b (λh:b=S=>r (by rw[<-h];exact hb))];exact e
  ·unfold fP
   split
   ·omega
   ·rw[zu,jd];omega
  ·refine H J (Moved.trans W.gtrans ((j.mono d).then_heap (Nat.le_succ _) λb o hb e=>?_) y) ?_
   ·rw[l.2 b (λh:b=S=>hb (by rw[h];exact zg))];exact e
   ·rw[show n - i=(n - (i+1))+1 by omega,List.range'_succ,zh,List.foldl_cons];exact B
theorem X3(x:Value){Q₁:Value->Shared->Prop}
  (h:Q₁ (.ref s.heap.objs.size) {s with heap:=s.heap.push {cls:=.type "set",dict:=none,data:=.set #[] 0 (.fresh 0 0 (!w.params.followText "set-order"))}}):
  codeAny (model prog w) A (.call (.builtin "set.__new__") ⟨[.type "set",x],[]⟩) (wants Q₁ E) s:=by
 refine codeAny_of_tree ?_;show wpAny _ A.in1 (do checkBuiltinCall "set.__new__" ⟨[.type "set",x],[]⟩;again (.builtin "set.__new__" ⟨[.type "set",x],[]⟩)) _ _ s;refine za (wpAny_of_eq (PySem.F.newCall_set_1 x) (zb ⟨plainId_quiet PySem.F.plain_set_new _,jc PySem.F.entry_set_new ?_⟩));rw[Around.under_plainId PySem.F.plain_set_new _];unfold Builtin.«set.__new__» Builtin.Frozenset.newClass;have b:=sub_set_self;obtain⟨c,g,d,tk,os⟩:=s;dsimp only
 wp_walk
 refine wpAny_askSetting (zb ?_);dsimp only;simp only[newObj];refine za (wpAny_alloc (zb ?_));exact zb h
theorem JG{h:Heap}:dj prog w (h.push {cls:=.type "set",dict:=none,data:=.set #[] 0 (.fresh 0 0 (!w.params.followText "set-order"))}) h.objs.size []:=
 ⟨_,#[],0,_,zw _ rfl,⟨rfl,rfl,rfl⟩,rfl,λe b=>by simp at b,.nil,by decide,by rfl,.inl rfl,rfl⟩
set_option maxHeartbeats 8000000 in
theorem X4{l:Addr}{items:Array Value}{ns:List Str}{Q:Value->Shared->Prop}
  (hh:A.handled=none) (hl:s.heap.IsList l items) (O:StrsAre items.toList ns) (hb:items.size+1<scanBound)
  (h:∀(h':Heap) (tk:Nat),dj prog w h' s.heap.objs.size (ns.foldl fP []) ->
   (∀b o,s.heap.get? b=some o->h'.get? b=some o)->Q (.ref s.heap.objs.size) {s with heap:=h',toks:=tk}):
  wpAny (model prog w) A (call (.type "set") [.ref l]) Q E s:=by
 obtain⟨c,tl,hmro⟩:=PySem.F.called_set.mro;have hmade:=PySem.F.called_set.made;have hsub:=PySem.F.called_set.sub;refine wpAny_call (codeAny_of_tree ?_);show wpAny _ _ (callAny (.type "set") _) _ _ _;refine zb ⟨Code.quiet_builtin _ (by decide +kernel),jc PySem.F.entry_type_call ?_⟩;rw[Around.under_plain (weight_type_call_type "set" [.ref l] []) rfl];have h1:=PySem.F.called_set.notType;have h2:=PySem.F.called_set.canCreate;have hct:=PySem.F.typeCall_set_1 (.ref l)
 repeat (any_goals (first | assumption | wp_step))
 generalize hO:({cls:=.type "set",dict:=none,data:=.set #[] 0 (.fresh 0 0 (!w.params.followText "set-order"))}:Obj)=O0
 refine codeAny_mono (X3 (.ref l) (E:=E) (Q₁:=λobj k=>obj=.ref s.heap.objs.size/\k = {s with heap:=s.heap.push O0}) (by rw[hO];exact⟨rfl,rfl⟩)) λr k L=>?_
 cases r with
 |error e=>exact L
 |ok fl =>
  cases fl with
  |ret obj =>
   obtain⟨rfl,rfl⟩:=L
   have hfr:dj prog w (s.heap.push O0) s.heap.objs.size []:=by rw[<-hO];exact JG
   have hS:(s.heap.push O0).get? s.heap.objs.size=some O0:=by rw[<-hO];exact zw _ rfl
   have J:O0.cls=.type "set":=by rw[<-hO]
   have hdat:O0.data=.set #[] 0 (.fresh 0 0 (!w.params.followText "set-order")):=by rw[<-hO]
   have hT:Shared.TypeIs {s with heap:=s.heap.push O0} (.ref s.heap.objs.size) "set":=⟨_,hS,J⟩;have hli:=PySem.F.called_set.init.lookup;have hbi:=PySem.F.called_set.init.bind (.ref s.heap.objs.size)
   repeat (any_goals (first | assumption | wp_step))
   refine codeAny_mono (codeAny_call_builtin (R:=wants (λr j=>r=.none/\∃h' tk,j = {s with heap:=h',toks:=tk} /\
     dj prog w h' s.heap.objs.size (ns.foldl fP []) /\
     (∀b o,s.heap.get? b=some o->h'.get? b=some o)) E) PySem.F.called_set.init.plain PySem.F.entry_set_init (check_set_init_1 hT ?_)) λG j d=>?_
   ·subst hO;obtain⟨ol,q,C,nl,B⟩:=hl;obtain⟨ocls,n,odata,g⟩:=ol;simp only at C B;subst C;subst B;have hol':(s.heap.push {cls:=.type "set",dict:=none,data:=.set #[] 0 (.fresh 0 0 (!w.params.followText "set-order"))}).get? l=some {cls:=.type "list",dict:=n,data:=.seq items nl,slots:=g}:=zm _ q;have hsls:=PySem.F.sub_list_set;have hslf:=PySem.F.sub_list_frozenset
    have hne:(Value.type "list" == Value.type "dict")=false:=by decide
    have y:(s.heap.push {cls:=.type "set",dict:=none,data:=.set #[] 0 (.fresh 0 0 (!w.params.followText "set-order"))}).IsList l items:=⟨_,hol',rfl,nl,rfl⟩;unfold Builtin.«set.__init__» noKeywords Builtin.Frozenset.updateFrom
    generalize hPI:pyIter=PI
    wp_walk
    subst hPI;refine wpAny_pyIter_list y ?_;refine za (wpAny_runValue ?_);have u:l<s.heap.objs.size:=zj q
    have X:A.in1.in1.in1.handled=none:=by simp[hh]
    have I:l≠(s.heap.push {cls:=.type "set",dict:=none,data:=.set #[] 0 (.fresh 0 0 (!w.params.followText "set-order"))}).objs.size:=by
     rw[Heap.size_push];exact zp (je u)
    have hSf:s.heap.objs.size∉[(s.heap.push {cls:=.type "set",dict:=none,data:=.set #[] 0 (.fresh 0 0 (!w.params.followText "set-order"))}).objs.size,l]:=by
     rw[Heap.size_push];simp only[zk,zt,List.not_mem_nil,or_false,not_or];exact⟨zp (zY _),Nat.ne_of_gt u⟩
    have U:ns.length=items.size:=by rw[<-O.strs,ze,Array.length_toList]
    have H:∀(i:Nat) (v:Value),items[i]?=some v->∃t,v=.str ((λi=>ns.getD i ⟨#[]⟩) i) t:=λi v hv=>by
     have hv':items.toList[i]?=some v:=by rw[Array.getElem?_toList];exact hv
     obtain⟨x,t,rfl⟩:=O.all v (zH hv');refine⟨t,?_⟩
     have m:(items.toList.map strOf)[i]?=some x:=by rw[zA,hv'];rfl
     rw[O.strs] at m;show Value.str x t=Value.str (ns.getD i ⟨#[]⟩) t;rw[jr,m];rfl
    refine XX ((Walks.list X _ l I items).toS) s.heap.objs.size
     hSf (λi=>ns.getD i ⟨#[]⟩) H hb (items.size - 0) 0 _ [] (by omega) (Nat.zero_le _)
     ⟨⟨_,zw _ rfl,rfl,rfl⟩,(y.push _)⟩ (zc _) (JG.at λo e=>zm _ e) ?hR
    intro s' m f;rw[Nat.sub_zero,<-U] at f;rw[map_getD] at f;obtain⟨h',g',d',P,T⟩:=s';have eg:g'=s.gens:=m.gens;have ed:d'=s.drawn:=m.drawn;have eo:T=s.os:=m.os;subst eg;subst ed;subst eo;show wpAny _ _ _ _ _ _;refine zb ?_;show wpAny _ _ (ret Value.none) _ _ _;refine zb ⟨rfl,h',P,rfl,f,λb o e=>?_⟩;have hb':=zj e;have Z:b≠s.heap.objs.size:=zp hb'
    have Y:b≠(s.heap.push {cls:=.type "set",dict:=none,data:=.set #[] 0 (.fresh 0 0 (!w.params.followText "set-order"))}).objs.size:=by
     rw[Heap.size_push];exact zp (je hb')
    exact m.heap b o (by simp only[zk,zt,List.not_mem_nil,or_false,not_or];exact⟨Z,Y⟩) (zm _ (zm _ e))
   ·cases G with
    |error e=>exact d
    |ok fl₂ =>
     cases fl₂ with
     |ret r =>
      obtain⟨rfl,h',tk,rfl,f,W⟩:=d
      repeat (any_goals (first | assumption | wp_step))
      exact h _ _ f W
     | _=>exact d.elim
  | _=>exact L.elim
end
theorem iQ:Slot "set_iterator" "__next__" "set_iterator.__next__" :=
 .of (owner:="set_iterator") (n:="__next__") (by rw[typeLookup_type,builtinLookup_eq_fast];kernel_rfl) (by decide +kernel) (by decide +kernel) (by decide +kernel)
  (by first | exact .inl (by decide +kernel) | exact .inr (by decide +kernel)) (by rw[isSubtype_type];kernel_rfl)
theorem uK:entryFor table "set_iterator.__next__" = some Builtin.«set_iterator.__next__»:=entryFor_of_tree (by kernel_rfl)
theorem uL(a:Value):argsOk "set_iterator.__next__" ⟨[a],[]⟩:=by unfold argsOk;kernel_rfl
theorem JH:Slot "set_iterator" "__iter__" "set_iterator.__iter__" :=
 .of (owner:="set_iterator") (n:="__iter__") (by rw[typeLookup_type,builtinLookup_eq_fast];kernel_rfl) (by decide +kernel) (by decide +kernel) (by decide +kernel)
  (by first | exact .inl (by decide +kernel) | exact .inr (by decide +kernel)) (by rw[isSubtype_type];kernel_rfl)
theorem X5:entryFor table "set_iterator.__iter__" = some Builtin.«dict_keyiterator.__iter__» :=
 entryFor_alias (id':="dict_keyiterator.__iter__") (by kernel_rfl) rfl (by decide +kernel) (by kernel_rfl)
theorem X6(a:Value):argsOk "set_iterator.__iter__" ⟨[a],[]⟩:=by unfold argsOk;kernel_rfl
theorem X7:entryFor table "set.__iter__" = some Builtin.«frozenset.__iter__» :=
 entryFor_alias (id':="frozenset.__iter__") (by kernel_rfl) rfl (by decide +kernel) (by kernel_rfl)
def ItS(h:Heap)(I a:Addr)(first:Value)(i n ep:Nat):Prop:=∃o,h.get? I=some o/\o.cls=.type "set_iterator"/\o.data=.fields #[first,.int i 0,.ref a,.int n 0,.int ep 0]
section
variable {prog:Program}{w:World}{A:Around}{E:Value->Shared->Prop}{s:Shared}{a:Addr}{ss:List Str}{o:Obj}{es:Array (Int×Value)}{ep:Nat}{t:SetTable}
theorem ItS.typeIs{I:Addr}{first:Value}{i n:Nat}(h:ItS s.heap I a first i n ep):s.TypeIs (.ref I) "set_iterator":=let ⟨o,h1,h2,_⟩:=h;⟨o,h1,h2⟩
theorem X8{M:Model}{b:Source}{n:Nat}{Q:Nat->Shared->Prop}(c:n≠0)(h:∀i d,i<n->Q i {s with drawn:=d}):wpAny M A (choose b n) Q E s :=
 λΓ p f=>⟨c,h _ _ (Nat.mod_lt _ (Nat.pos_of_ne_zero c))⟩
theorem yt{α:Type}:∀(l:List α) (i:Nat) (h:i<l.length),(l[i]::l.eraseIdx i).Perm l
 |x::xs,0,_=>.refl _
 |x::xs,i+1,h=>(List.Perm.swap _ _ _).trans ((yt xs i (Nat.lt_of_succ_lt_succ h)).cons x)
theorem JK{M:Model}{α:Type}:∀(n:Nat) (xs:List α) (s:Shared) (Q:List α->Shared->Prop),xs.length=n->(∀ys d,ys.Perm xs->Q ys {s with drawn:=d})->wpAny M A (drawOrder n xs) Q E s
 | 0,xs,s,Q,hl,h=>by
  rw[List.length_eq_zero_iff.mp hl] at h;exact zb (h [] s.drawn .nil)
 |n+1,[],s,Q,hl,h=>by cases hl
 |n+1,x::xs,s,Q,hl,h=>by
  unfold drawOrder;refine za (X8 (by simp) λi d b=>?_);rw[zx b];refine za (JK n _ _ _ ?_ λys f c=>?_)
  ·rw[List.length_eraseIdx_of_lt b];omega
  ·exact zb (h _ f ((c.cons _).trans (yt _ _ b)))
theorem Yb{Q:Value->Shared->Prop}(x:eE prog w s.heap a ss o es ep t)
  (h1:(w.params.followText "set-order" = true\/es.size<=1)->Q (.ref s.heap.objs.size) {s with heap:=s.heap.push {cls:=.type "set_iterator",data:=.fields #[.int 0 0,.int 0 0,.ref a,.int es.size 0,.int ep 0]}})
  (h2:w.params.followText "set-order" = false->∀(ps:List Nat) d,ps.Perm (List.range es.size)->Q (.ref (s.heap.objs.size+1)) {s with drawn:=d,heap:=(s.heap.push {cls:=.type "tuple",data:=.seq (ps.map λi=>Value.int (i:Nat) 0).toArray}).push {cls:=.type "set_iterator",data:=.fields #[.ref s.heap.objs.size,.int 0 0,.ref a,.int es.size 0,.int ep 0]}}):
  wpAny (model prog w) A (pyIter (.ref a)) Q E s:=by
 obtain⟨g,l,hd,u,y,r,k,c,q⟩:=x;have n:s.TypeIs (.ref a) "set":=⟨o,g,l.1⟩;refine wpAny_pyIter_slot n PySem.F.slot_set_iter (wpAny_call_entry PySem.F.slot_set_iter n X7 ?_ (PySem.F.args_set_iter_1 _));unfold Builtin.«frozenset.__iter__» Builtin.Frozenset.slot0 slotArgs;simp only[List.isEmpty_nil,Bool.not_true,Bool.false_eq_true,↓reduceIte,bind_assoc,zJ,bne_self_eq_false];unfold Builtin.Frozenset.addrOf Builtin.Frozenset.sizeOf;refine za (zb ?_);dsimp only;refine za (zb ?_);refine za (za (wpAny_setEntries_of g hd k (zb ?_)));unfold setDrawn setsByText;refine za (za (wpAny_setState_of g hd k ?_))
 refine za (za (wpAny_askSetting (zb ?_)));refine zb ?_;refine wpAny_ite_split (λb=>?_) (λb=>?_)
 ·change (!w.params.followText "set-order" && (!t.plain&&decide (es.size>1)))=true at b
  have f:w.params.followText "set-order" = false:=by
   cases h:w.params.followText "set-order" with
   |false=>rfl
   |true=>rw[h] at b;cases b
  refine za (JK _ _ _ _ List.length_range λps d j=>?_)
  have c:ps.length=es.size:=by rw[j.length_eq,List.length_range]
  refine za (wpAny_newTuple ?_ (by rw[ze,c,sizeLine_eq];unfold scanBound at r;omega));have ho':(s.heap.push {cls:=.type "tuple",data:=.seq (ps.map λi=>rawInt (i:Nat)).toArray}).get? a=some o:=zm _ g;refine za (wpAny_setEpoch_of (s:={s with drawn:=d,heap:=s.heap.push {cls:=.type "tuple",data:=.seq (ps.map λi=>rawInt (i:Nat)).toArray}}) ho' hd k ?_);unfold newFields;refine za (wpAny_newObj_type (zb ⟨_,rfl,"set_iterator",_,⟨_,zw _ rfl,rfl⟩,iQ.lookup,?_⟩))
  have:=h2 f ps d j
  rw[Heap.size_push];exact this
 ·change ¬(!w.params.followText "set-order" && (!t.plain&&decide (es.size>1)))=true at b
  have f:w.params.followText "set-order" = true\/es.size<=1:=by
   cases h:w.params.followText "set-order" with
   |true=>exact .inl rfl
   |false =>
    refine .inr ?_;rw[h] at b
    rcases c with m | m
    ·omega
    ·rw[m] at b;simpa using b
  refine za (zb ?_);refine za (wpAny_setEpoch_of g hd k ?_);unfold newFields;exact za (wpAny_newObj_type (zb ⟨_,rfl,"set_iterator",_,⟨_,zw _ rfl,rfl⟩,iQ.lookup,h1 f⟩))
theorem uM{h:Heap}{I:Addr}{o:Obj}{vs:Array Value}{i:Nat}{x:Value}(c:h.get? I=some o)(hd:o.data=.fields vs):∃b,(h.update I (Obj.mapFields (·.setIfInBounds i x))).get? I=some b/\b.cls=o.cls/\b.data=.fields (vs.setIfInBounds i x):=
 ⟨_,Heap.get?_update_self _ c (Obj.isFreed_of_fields (Obj.data_mapFields hd _)),Obj.cls_mapFields ..,by rw[Obj.data_mapFields hd]⟩
theorem JL{I:Addr}{sl:Int}{nx i n:Nat}{v:Value}{Q:Option Value->Shared->Prop}(b:ItS s.heap I a (.int sl 0) i n ep)(x:eE prog w s.heap a ss o es ep t)(m:es.size=n)
  (hs:∀(H:Around) (h:Option (Value×Nat)->Shared->Prop) (G:Value->Shared->Prop),h (some (v,nx)) s->wpAny (model prog w) H (setNext a sl.toNat i ep) h G s)
  (u:∀h',ItS h' I a (.int nx 0) (i+1) n ep->Heap.SameBut I s.heap h'->Q (some v) {s with heap:=h'}):wpAny (model prog w) A (pyNext (.ref I)) Q E s:=by
 obtain⟨P,d,r,c⟩:=id b;obtain⟨l,L,hd,O,T,U,q,J,j⟩:=x;unfold pyNext
 refine za (wpAny_attempt (wpAny_callSpecial?_slot (name:=Str.ofString "__next__") b.typeIs iQ
  (wpAny_call_entry iQ b.typeIs uK ?_ (uL _))))
 unfold Builtin.«set_iterator.__next__» slotArgs;simp only[List.isEmpty_nil,Bool.not_true,Bool.false_eq_true,↓reduceIte,bind_assoc,zJ,bne_self_eq_false];refine za (zb ?_);dsimp only;refine za (wpAny_fieldsOf d c ?_);dsimp only;refine za (wpAny_setEntries_of l hd q ?_);rw[if_neg (by rw[m];simp)];refine za (hs _ _ _ ?_);dsimp only;refine za (wpAny_setField d c (by simp) ?_);obtain⟨R,f,F,g⟩:=uM (i:=0) (x:=rawInt (nx:Nat)) d c;refine za (wpAny_setField (s:={s with heap:=s.heap.update I (Obj.mapFields (·.setIfInBounds 0 (rawInt (nx:Nat))))}) f g (by simp) ?_);obtain⟨k,y,C,B⟩:=uM (i:=1) (x:=rawInt ((i:Int)+1)) f g
 refine zb ⟨_,rfl,zb (u _ ⟨k,y,C.trans (F.trans r),by rw[B];simp[rawInt]⟩ ((Heap.SameBut.update ..).trans (Heap.SameBut.update ..)))⟩
theorem JM{I:Addr}{sl:Int}{i n:Nat}{Q:Option Value->Shared->Prop}(l:A.handled=none)(c:ItS s.heap I a (.int sl 0) i n ep)(x:eE prog w s.heap a ss o es ep t)(k:es.size=n)
  (hs:∀(y:Around) (g:Option (Value×Nat)->Shared->Prop) (u:Value->Shared->Prop),g none s->wpAny (model prog w) y (setNext a sl.toNat i ep) g u s)
  (r:∀h',Heap.ExtBut I s.heap h'->Q none {s with heap:=h'}):wpAny (model prog w) A (pyNext (.ref I)) Q E s:=by
 obtain⟨G,f,J,d⟩:=id c;obtain⟨j,C,hd,F,H,L,q,B,h⟩:=x;unfold pyNext
 refine za (wpAny_attempt (wpAny_callSpecial?_slot (name:=Str.ofString "__next__") c.typeIs iQ
  (wpAny_call_entry iQ c.typeIs uK ?_ (uL _))))
 unfold Builtin.«set_iterator.__next__» slotArgs;simp only[List.isEmpty_nil,Bool.not_true,Bool.false_eq_true,↓reduceIte,bind_assoc,zJ,bne_self_eq_false];refine za (zb ?_);dsimp only;refine za (wpAny_fieldsOf f d ?_);dsimp only;refine za (wpAny_setEntries_of j hd q ?_);rw[if_neg (by rw[k];simp)];refine za (hs _ _ _ ?_);dsimp only;refine za (wpAny_setField f d (by simp) ?_);refine za ?_;simp only[newExc,newTuple];refine za (wpAny_newObj_type ?_ (by size_fits));refine za (m:=firstArgMember _ _) (wpAny_of_eq (a:=Value.none) (by first | rfl | (simp only[firstArgMember];rfl)) ?_)
 refine wpAny_newObj_type ?_ (by size_fits);simp only[raiseNew];refine za (wpAny_handled ?_);rw[show A.in1.handled=none from l];refine za (zb (wpAny_throw ?_));refine za (wpAny_isInstance (T:="StopIteration") (b:=true) ⟨_,zw _ rfl,rfl⟩ isSubtype_stop ?_);exact zb (r _ (((Heap.SameBut.update ..).extBut.push _).push _))
theorem Yc{I T:Addr}{p i n:Nat}{v:Value}{hs:Int}{oT:Obj}{vs:Array Value}{l:Nat}{Q:Option Value->Shared->Prop}(b:ItS s.heap I a (.ref T) i n ep)(x:eE prog w s.heap a ss o es ep t)(m:es.size=n)
  (u:s.heap.get? T=some oT) (f:oT.data=.seq vs l) (hv:vs[i]?=some (.int (p:Nat) 0)) (q:es[p]?=some (hs,v))
  (y:∀h',ItS h' I a (.ref T) (i+1) n ep->Heap.SameBut I s.heap h'->Q (some v) {s with heap:=h'}):wpAny (model prog w) A (pyNext (.ref I)) Q E s:=by
 obtain⟨L,d,r,c⟩:=id b;obtain⟨g,H,hd,J,O,P,h,G,j⟩:=x;unfold pyNext
 refine za (wpAny_attempt (wpAny_callSpecial?_slot (name:=Str.ofString "__next__") b.typeIs iQ
  (wpAny_call_entry iQ b.typeIs uK ?_ (uL _))))
 unfold Builtin.«set_iterator.__next__» slotArgs;simp only[List.isEmpty_nil,Bool.not_true,Bool.false_eq_true,↓reduceIte,bind_assoc,zJ,bne_self_eq_false];refine za (zb ?_);dsimp only;refine za (wpAny_fieldsOf d c ?_);dsimp only;refine za (wpAny_setEntries_of g hd h ?_);rw[if_neg (by rw[m];simp)];refine za (wpAny_seqItems u f ?_);dsimp only;rw[show(i:Int).toNat=i from rfl,hv];dsimp only;unfold setNextDrawn;refine za (za (wpAny_setState_of g hd h ?_));dsimp only;rw[if_neg (by simp)];rw[show((p:Nat):Int).toNat=p from rfl,q];refine za (zb ?_);refine zb ?_;refine za (wpAny_setField d c (by simp) ?_)
 obtain⟨k,B,F,C⟩:=uM (i:=1) (x:=rawInt ((i:Int)+1)) d c;exact zb ⟨_,rfl,zb (y _ ⟨k,B,F.trans r,by rw[C];simp[rawInt]⟩ (Heap.SameBut.update ..))⟩
theorem Yd{I T:Addr}{i n:Nat}{oT:Obj}{vs:Array Value}{j:Nat}{Q:Option Value->Shared->Prop}(q:A.handled=none)(c:ItS s.heap I a (.ref T) i n ep)(x:eE prog w s.heap a ss o es ep t)(l:es.size=n)
  (u:s.heap.get? T=some oT) (g:oT.data=.seq vs j) (hv:vs[i]?=none)
  (y:∀h',Heap.ExtBut I s.heap h'->Q none {s with heap:=h'}):wpAny (model prog w) A (pyNext (.ref I)) Q E s:=by
 obtain⟨J,f,P,d⟩:=id c;obtain⟨k,G,hd,H,O,R,r,F,h⟩:=x;unfold pyNext
 refine za (wpAny_attempt (wpAny_callSpecial?_slot (name:=Str.ofString "__next__") c.typeIs iQ
  (wpAny_call_entry iQ c.typeIs uK ?_ (uL _))))
 unfold Builtin.«set_iterator.__next__» slotArgs;simp only[List.isEmpty_nil,Bool.not_true,Bool.false_eq_true,↓reduceIte,bind_assoc,zJ,bne_self_eq_false];refine za (zb ?_);dsimp only;refine za (wpAny_fieldsOf f d ?_);dsimp only;refine za (wpAny_setEntries_of k hd r ?_);rw[if_neg (by rw[l];simp)];refine za (wpAny_seqItems u g ?_);dsimp only;rw[show(i:Int).toNat=i from rfl,hv];dsimp only;refine za (wpAny_setField f d (by simp) ?_);obtain⟨L,B,U,C⟩:=uM (i:=0) (x:=rawInt 0) f d;refine za (wpAny_setField (s:={s with heap:=s.heap.update I (Obj.mapFields (·.setIfInBounds 0 (rawInt 0)))}) B C (by simp) ?_)
 refine za ?_;simp only[newExc,newTuple];refine za (wpAny_newObj_type ?_ (by size_fits));refine za (m:=firstArgMember _ _) (wpAny_of_eq (a:=Value.none) (by first | rfl | (simp only[firstArgMember];rfl)) ?_);refine wpAny_newObj_type ?_ (by size_fits);simp only[raiseNew];refine za (wpAny_handled ?_);rw[show A.in1.handled=none from q];refine za (zb (wpAny_throw ?_));refine za (wpAny_isInstance (T:="StopIteration") (b:=true) ⟨_,zw _ rfl,rfl⟩ isSubtype_stop ?_);exact zb (y _ ((((Heap.SameBut.update ..).trans (Heap.SameBut.update ..)).extBut.push _).push _))
theorem yu{I:Addr}{first:Value}{i n:Nat}{Q:Value->Shared->Prop}(b:ItS s.heap I a first i n ep)(h:Q (.ref I) s):wpAny (model prog w) A (pyIter (.ref I)) Q E s:=by
 refine wpAny_pyIter_slot b.typeIs JH (wpAny_call_entry JH b.typeIs X5 ?_ (X6 _));unfold Builtin.«dict_keyiterator.__iter__»;refine za (m:=slotArgs "__iter__" 0 _) (zb ?_);exact zb ⟨_,rfl,"set_iterator",_,b.typeIs,iQ.lookup,h⟩
theorem JN{i sl:Nat}{k:Around}{f:Option (Value×Nat)->Shared->Prop}{j:Value->Shared->Prop}(x:eE prog w s.heap a ss o es ep t)(b:w.params.followText "set-order" = true)
  (h:f (((pickOrder (w.params.setOrder a ep) es)[i]?).map λe=>(e.2,sl)) s):wpAny (model prog w) k (setNext a sl i ep) f j s:=by
 obtain⟨c,m,hd,n,q,r,d,l,g⟩:=x;unfold setNext setsByText;refine za (wpAny_setState_of c hd d ?_);dsimp only;refine za (za (wpAny_askSetting (zb ?_)));rw[if_pos (show(⟨(model prog w).prog,(model prog w).w.params⟩:Setting).params.followText "set-order" = true from b)];rw[if_neg (by simp)];unfold setWalk setsByText;refine za (za (wpAny_setState_of c hd d ?_));dsimp only;refine za (za (wpAny_askSetting (zb ?_)));rw[if_pos (show(⟨(model prog w).prog,(model prog w).w.params⟩:Setting).params.followText "set-order" = true from b)];exact za (wpAny_askSetting (zb (zb h)))
theorem JP{sl:Nat}{k:Around}{i:Nat}{g:Option (Value×Nat)->Shared->Prop}{n:Value->Shared->Prop}(x:eE prog w s.heap a ss o es ep t)(b:w.params.followText "set-order" = false)(h1:es.size<=1)
  (h:g (match es[SetTable.below t.place sl]?,t.place[SetTable.below t.place sl]? with | some (_,x),some j=>some (x,j+1) | _,_=>none) s):wpAny (model prog w) k (setNext a sl i ep) g n s:=by
 obtain⟨l,r,hd,u,y,B,m,q,c⟩:=x
 have f:t.led=true:=by rw[c,b];rfl
 unfold setNext setsByText;refine za (wpAny_setState_of l hd m ?_);dsimp only;refine za (za (wpAny_askSetting (zb ?_)));rw[if_neg (show ¬(⟨(model prog w).prog,(model prog w).w.params⟩:Setting).params.followText "set-order" = true from λz=>by have:=b.symm.trans z;cases this)];refine wpAny_ite_split (λd=>?_) (λd=>?_)
 ·change (!t.plain&&decide (es.size>1))=true at d
  rw[zr,decide_eq_true_eq] at d;omega
 ·refine za ?_;show wpAny (model prog w) k (if(!t.led && !es.isEmpty)=true then unsupported "set:maker-not-led" else pure ()) _ _ _;rw[if_neg (by rw[f];simp)];refine zb ?_;exact zb h
theorem JQ{α:Type}(next:Nat->Nat):∀(fuel k:Nat) (left:List α) (out:Array α),left.length=fuel->(pickOrder.go next fuel k left out).toList.Perm (out.toList++left)
 | 0,k,left,out,h=>by
  rw[List.length_eq_zero_iff.mp h];unfold pickOrder.go;simp
 |fuel+1,k,left,out,h=>by
  unfold pickOrder.go;have b:next k % left.length<left.length:=Nat.mod_lt _ (by omega);rw[zx b];dsimp only;refine(JQ next fuel (k+1) _ _ (by rw[List.length_eraseIdx_of_lt b];omega)).trans ?_;rw[Array.toList_push,zB];exact List.Perm.append_left _ (yt left _ b)
theorem rP{α:Type}(next:Nat->Nat)(xs:Array α):(pickOrder next xs).toList.Perm xs.toList:=by
 have:=JQ next xs.size 0 xs.toList #[] (Array.length_toList ..)
 unfold pickOrder;simpa using this
theorem map_range{α:Type}(xs:Array α)(ps:List Nat)(h:ps.Perm (List.range xs.size)):∃ys:List α,ys.Perm xs.toList/\ps.length=ys.length/\∀(i p:Nat),ps[i]?=some p->xs[p]?=ys[i]?:=by
 have c:∀p∈ps,p<xs.size:=λp g=>List.mem_range.mp (h.mem_iff.mp g)
 refine⟨ps.filterMap λp=>xs[p]?,?_,?_,?_⟩
 ·refine(h.filterMap _).trans ?_
  have:(List.range xs.size).filterMap (λp=>xs[p]?)=xs.toList:=by
   have e:∀l:List α,(List.range l.length).filterMap (λp=>l[p]?)=l:=λl=>by
    induction l with
    |nil=>rfl
    |cons x l ih =>
     rw[zo,List.range_succ_eq_map,List.filterMap_cons,List.filterMap_map];simp only[ji];congr 1
   have:=e xs.toList
   simpa using this
  rw[this]
 ·have e:∀l:List Nat,(∀p∈l,p<xs.size)->l.length=(l.filterMap λp=>xs[p]?).length:=λl=>by
   induction l with
   |nil=>intro _;rfl
   |cons p l ih =>
    intro b;rw[List.filterMap_cons,Array.getElem?_eq_getElem (b p zg)];dsimp only;rw[zo,zo,<-ih λq f=>b q (zn _ f)]
  exact e ps c
 ·have e:∀(l:List Nat),(∀p∈l,p<xs.size)->∀(i p:Nat),l[i]?=some p->xs[p]?=(l.filterMap λp=>xs[p]?)[i]?:=λl=>by
   induction l with
   |nil=>intro _ i p d;cases d
   |cons q l ih =>
    intro b i p d;rw[List.filterMap_cons,Array.getElem?_eq_getElem (b q zg)];dsimp only
    cases i with
    |zero =>
     cases d;rw[Array.getElem?_eq_getElem (b q zg)];rfl
    |succ i=>exact ih (λq f=>b q (zn _ f)) i p d
  exact e ps c
end
def PSt(xs:List Str)(i:Nat)(v:Value):Prop:=∃x t,xs[i]?=some x/\v=.str x t
section
variable {prog:Program}{w:World}{A:Around}{E:Value->Shared->Prop}{s:Shared}{a:Addr}{ss:List Str}{o:Obj}{es:Array (Int×Value)}{ep:Nat}{t:SetTable}
theorem ItS.at{h h':Heap}{I:Addr}{first:Value}{i n:Nat}(x:ItS h I a first i n ep)(e:∀o,h.get? I=some o->h'.get? I=some o):ItS h' I a first i n ep:=let ⟨o,ho,r⟩:=x;⟨o,e _ ho,r⟩
theorem eE.at{h h':Heap}(x:eE prog w h a ss o es ep t)(e:∀o,h.get? a=some o->h'.get? a=some o):eE prog w h' a ss o es ep t:=⟨e _ x.1,x.2⟩
theorem yw{I:Addr}{h':Heap}(e:Heap.SameBut I s.heap h'):Moved [I] Eq s {s with heap:=h'}:=⟨λb o c q=>(e.2 b λz=>c (by rw[z];exact zt.mpr rfl)).trans q,rfl,rfl,rfl,zc _⟩
theorem yx{I:Addr}{h':Heap}(e:Heap.ExtBut I s.heap h'):Moved [I] Eq s {s with heap:=h'}:=⟨λb o c q=>e b o (λz=>c (by rw[z];exact zt.mpr rfl)) q,rfl,rfl,rfl,zc _⟩
theorem yz{x:eE prog w s.heap a ss o es ep t}{l:List (Int×Value)}(f:l.Perm es.toList){i:Nat}{e:Int×Value}(c:l[i]?=some e):PSt (l.map λe=>strOf e.2) i e.2:=by
 obtain⟨⟨k,g,_⟩,_⟩:=x.2.2.2.1 e (f.mem_iff.mp (zH c));obtain⟨d,b⟩:=Value.isStrOf_shape g;exact⟨k,d,by rw[zA,c,Option.map_some,b];rfl,b⟩
theorem Ye{I:Addr}(hh:A.handled=none)(hne:a≠I)(hft:w.params.followText "set-order" = true):
  WalksS prog w A I [I,a] [I] Eq es.size (PSt ((pickOrder (w.params.setOrder a ep) es).toList.map λe=>strOf e.2)) (λi s=>ItS s.heap I a (.int 0 0) i es.size ep/\eE prog w s.heap a ss o es ep t) where
 sub:=by simp
 grefl:=λ_=>rfl
 gtrans:=λ_ _ _ h1 h2=>h1.trans h2
 frame:=λi s h' tk st _ k=>⟨st.1.at λo e=>k I (by simp) o e,st.2.at λo e=>k a (by simp) o e⟩
 item:=λi s Q E hi st hQ=>by
  have hsz:(pickOrder (w.params.setOrder a ep) es).size=es.size:=by rw[<-Array.length_toList,(rP _ es).length_eq,Array.length_toList]
  have he:(pickOrder (w.params.setOrder a ep) es)[i]?=some ((pickOrder (w.params.setOrder a ep) es)[i]'(by omega)):=Array.getElem?_eq_getElem (by omega)
  refine JL (nx:=0) st.1 st.2 rfl (λA' Q' E' q=>JN st.2 hft (by rw[he];exact q)) λh' it' sb=>hQ _ _ ?_ ⟨it',st.2.at λo e=>(sb.2 a hne).trans e⟩ (yw sb)
  exact yz (x:=st.2) (rP _ es) (by rw[Array.getElem?_toList];exact he)
 done:=λs Q E st hQ=>by
  have hsz:(pickOrder (w.params.setOrder a ep) es).size=es.size:=by rw[<-Array.length_toList,(rP _ es).length_eq,Array.length_toList]
  have he:(pickOrder (w.params.setOrder a ep) es)[es.size]?=none:=Array.getElem?_eq_none (by omega)
  exact JM hh st.1 st.2 rfl (λA' Q' E' q=>JN st.2 hft (by rw[he];exact q)) λh' e=>hQ _ (yx e)
 self:=λi s Q E st h=>yu st.1 h
theorem JR(j k:Nat):SetTable.below #[j] k=if j<k then 1 else 0:=by
 unfold SetTable.below;show SetTable.below.go #[j] k 1 0 1=_;unfold SetTable.below.go;simp only[Nat.lt_one_iff,↓reduceIte];show(if(#[j]:Array Nat).getD 0 k<k then SetTable.below.go #[j] k 0 1 1 else SetTable.below.go #[j] k 0 0 0)=_;show(if j<k then SetTable.below.go #[j] k 0 1 1 else SetTable.below.go #[j] k 0 0 0)=_;unfold SetTable.below.go;rfl
theorem Yg{I:Addr}{j:Nat}{e:Int×Value}(hh:A.handled=none)(hne:a≠I)(hft:w.params.followText "set-order" = false)(hes:es = #[e])(hj:t.place = #[j]):
  WalksS prog w A I [I,a] [I] Eq 1 (PSt (es.toList.map λe=>strOf e.2)) (λi s=>ItS s.heap I a (.int (if i=0 then 0 else((j+1:Nat):Int)) 0) i 1 ep/\eE prog w s.heap a ss o es ep t) where
 sub:=by simp
 grefl:=λ_=>rfl
 gtrans:=λ_ _ _ h1 h2=>h1.trans h2
 frame:=λi s h' tk st _ k=>⟨st.1.at λo e=>k I (by simp) o e,st.2.at λo e=>k a (by simp) o e⟩
 item:=λi s Q E hi st hQ=>by
  have hi0:i=0:=by omega
  subst hi0
  refine JL (nx:=j+1) (v:=e.2) st.1 st.2 (by rw[hes];rfl) (λA' Q' E' q=>JP st.2 hft (by rw[hes];exact zc _) ?_) λh' it' sb=>hQ _ _ ?_ ⟨it',st.2.at λo e=>(sb.2 a hne).trans e⟩ (yw sb)
  ·rw[hj,show(if(0:Nat)=0 then(0:Int) else((j+1:Nat):Int)).toNat=0 from rfl,JR,if_neg (Nat.not_lt_zero _),hes];exact q
  ·exact yz (x:=st.2) (.refl _) (e:=e) (by rw[hes];rfl)
 done:=λs Q E st hQ=>by
  refine JM hh st.1 st.2 (by rw[hes];rfl) (λA' Q' E' q=>JP st.2 hft (by rw[hes];exact zc _) ?_) λh' e=>hQ _ (yx e)
  rw[hj,show(if(1:Nat)=0 then(0:Int) else((j+1:Nat):Int)).toNat=j+1 from rfl,JR,if_pos (zY _),hes];exact q
 self:=λi s Q E st h=>yu st.1 h
theorem Yh{I T:Addr}{oT:Obj}{ps:List Nat}{nT:Nat}{ys:List (Int×Value)}(hh:A.handled=none)(hne:a≠I)(hnT:T≠I)(hTd:oT.data=.seq (ps.map λi=>Value.int (i:Nat) 0).toArray nT)
  (hy:ys.Perm es.toList) (hl:ps.length=es.size) (hp:∀(i p:Nat),ps[i]?=some p->es[p]?=ys[i]?):
  WalksS prog w A I [I,a,T] [I] Eq es.size (PSt (ys.map λe=>strOf e.2)) (λi s=>ItS s.heap I a (.ref T) i es.size ep/\eE prog w s.heap a ss o es ep t/\s.heap.get? T=some oT) where
 sub:=by simp
 grefl:=λ_=>rfl
 gtrans:=λ_ _ _ h1 h2=>h1.trans h2
 frame:=λi s h' tk st _ k=>⟨st.1.at λo e=>k I (by simp) o e,st.2.1.at λo e=>k a (by simp) o e,k T (by simp) _ st.2.2⟩
 item:=λi s Q E hi st hQ=>by
  have hi':i<ps.length:=by omega
  have e1:=zx hi'
  have hyl:ys.length=es.size:=by rw[hy.length_eq,Array.length_toList]
  have e2:=zx (l:=ys) (i:=i) (by omega);have e3:=(hp i _ e1).trans e2
  refine Yc (hs:=_) st.1 st.2.1 rfl st.2.2 hTd (p:=ps[i]) ?_ (v:=(ys[i]'(by omega)).2) e3 λh' it' sb=>hQ _ _ ?_ ⟨it',st.2.1.at λo e=>(sb.2 a hne).trans e,(sb.2 T hnT).trans st.2.2⟩ (yw sb)
  ·rw[List.getElem?_toArray,zA,e1];rfl
  ·exact yz (x:=st.2.1) hy e2
 done:=λs Q E st hQ=>by
  refine Yd hh st.1 st.2.1 rfl st.2.2 hTd ?_ λh' e=>hQ _ (yx e)
  rw[List.getElem?_toArray,zA,jg (by omega)];rfl
 self:=λi s Q E st h=>yu st.1 h
theorem Yi{Q:Value->Shared->Prop}(y:A.handled=none)(R:dj prog w s.heap a ss)(C:ss≠[])
  (h:∀(n:Shared) (I:Addr) (fp:List Addr) (St:Nat->Shared->Prop) (xs:List Str),(∀b o,s.heap.get? b=some o->n.heap.get? b=some o)->n.gens=s.gens->n.os=s.os->n.toks=s.toks->xs.Perm ss->s.heap.objs.size<=I ->
   (∀b∈fp,b=a\/s.heap.objs.size<=b)->WalksS prog w A I fp [I] Eq xs.length (PSt xs) St->St 0 n->Q (.ref I) n):wpAny (model prog w) A (pyIter (.ref a)) Q E s:=by
 obtain⟨o,es,ep,t,x⟩:=R;have m:=zj x.1
 have hlen:es.size=ss.length:=by rw[<-x.2.2.2.2.1.length_eq];unfold nC;rw[ze,Array.length_toList]
 have H:0<es.size:=by rw[hlen];exact List.length_pos_iff.mpr C
 refine Yb x (λq=>?_) (λk ps d f=>?_)
 ·have G:eE prog w (s.heap.push {cls:=.type "set_iterator",data:=.fields #[.int 0 0,.int 0 0,.ref a,.int es.size 0,.int ep 0]}) a ss o es ep t:=x.at λo e=>zm _ e
  cases k:w.params.followText "set-order" with
  |true =>
   have W:=Ye (prog:=prog) (o:=o) (ss:=ss) (es:=es) (ep:=ep) (t:=t) y (zp m) k;refine h _ _ [s.heap.objs.size,a] (λi g=>ItS g.heap s.heap.objs.size a (.int 0 0) i es.size ep/\eE prog w g.heap a ss o es ep t) ((pickOrder (w.params.setOrder a ep) es).toList.map λe:Int×Value=>strOf e.2) (λb o e=>zm _ e) rfl rfl rfl (((rP _ es).map λe:Int×Value=>strOf e.2).trans (show(es.toList.map λe:Int×Value=>strOf e.2).Perm ss from x.2.2.2.2.1)) (zc _) (λb c=>?_) ?_ ⟨⟨_,zw _ rfl,rfl,rfl⟩,G⟩
   ·rcases zk.mp c with rfl | c
    ·exact .inr (zc _)
    ·exact .inl (zt.mp c)
   ·rw[ze,(rP _ es).length_eq,Array.length_toList];exact W
  |false =>
   have h1:es.size=1:=by
    rcases q with q | q
    ·rw[k] at q;cases q
    ·omega
   obtain⟨e,F⟩:∃e,es = #[e]:=by
    obtain⟨l⟩:=es
    match l,h1 with
    | [e],_=>exact⟨e,rfl⟩
   have r:=x.2.2.2.2.2.2.1
   obtain⟨j,P⟩:∃j,t.place = #[j]:=by
    have f:t.place.size=1:=by
     simp only[SetTable.fits,zr,beq_iff_eq] at r;omega
    revert f
    generalize t.place=L
    intro f;obtain⟨l⟩:=L
    match l,f with
    | [j],_=>exact⟨j,rfl⟩
   have W:=Yg (prog:=prog) (o:=o) (ss:=ss) (ep:=ep) y (zp m) k F P;refine h _ _ [s.heap.objs.size,a] (λi g=>ItS g.heap s.heap.objs.size a (.int (if i=0 then 0 else((j+1:Nat):Int)) 0) i 1 ep/\eE prog w g.heap a ss o es ep t) (es.toList.map λe:Int×Value=>strOf e.2) (λb o e=>zm _ e) rfl rfl rfl (show(es.toList.map λe:Int×Value=>strOf e.2).Perm ss from x.2.2.2.2.1) (zc _) (λb c=>?_) ?_ ⟨⟨_,zw _ rfl,rfl,by rw[h1];rfl⟩,G⟩
   ·rcases zk.mp c with rfl | c
    ·exact .inr (zc _)
    ·exact .inl (zt.mp c)
   ·rw[ze,Array.length_toList,h1];exact W
 ·obtain⟨J,u,U,O⟩:=map_range es ps f
  have hl':ps.length=es.size:=by rw[f.length_eq,List.length_range]
  have B:(s.heap.push {cls:=.type "tuple",data:=.seq (ps.map λi=>Value.int (i:Nat) 0).toArray}).objs.size=s.heap.objs.size+1:=Heap.size_push _ _;have W:=Yh (prog:=prog) (w:=w) (A:=A) (a:=a) (ss:=ss) (o:=o) (ep:=ep) (t:=t) (I:=s.heap.objs.size+1) (T:=s.heap.objs.size) (oT:={cls:=.type "tuple",data:=.seq (ps.map λi=>Value.int (i:Nat) 0).toArray}) (ps:=ps) y (zp (je m)) (zp (zY _)) rfl u hl' O;refine h _ _ [s.heap.objs.size+1,a,s.heap.objs.size] (λi g=>ItS g.heap (s.heap.objs.size+1) a (.ref s.heap.objs.size) i es.size ep/\eE prog w g.heap a ss o es ep t/\g.heap.get? s.heap.objs.size=some {cls:=.type "tuple",data:=.seq (ps.map λi=>Value.int (i:Nat) 0).toArray}) (J.map λe:Int×Value=>strOf e.2) (λb o e=>zm _ (zm _ e)) rfl rfl rfl ((u.map λe:Int×Value=>strOf e.2).trans (show(es.toList.map λe:Int×Value=>strOf e.2).Perm ss from x.2.2.2.2.1)) (Nat.le_succ _) (λb c=>?_) ?_ ⟨⟨_,by rw[<-B];exact zw _ rfl,rfl,rfl⟩,x.at λo e=>zm _ (zm _ e),zm _ (zw _ rfl)⟩
  ·rcases zk.mp c with rfl | c
   ·exact .inr (Nat.le_succ _)
   ·rcases zk.mp c with rfl | c
    ·exact .inl rfl
    ·exact .inr (by rw[zt.mp c];exact zc _)
  ·rw[ze,u.length_eq,Array.length_toList];exact W
theorem Yj{r:Addr}{Q:Bool->Shared->Prop}(d:s.TypeIs (.ref r) "set")(h:Q false s):wpAny (model prog w) A (Builtin.List.listLengthHint (.ref r)) Q E s:=by
 unfold Builtin.List.listLengthHint;refine za (wpAny_specialOf d PySem.F.slot_set_len.lookup ?_)
 generalize hid:("set.__len__":String)=f
 wp_delta
 rw[show splitId f=some ("set","__len__") from by subst hid;decide +kernel];subst hid;refine za (wpAny_isInstance (T:="set") (b:=true) d (by rw[isSubtype_type];kernel_rfl) ?_);refine wpAny_ite_split (λc=>absurd c (by decide)) (λ_=>?_);refine wpAny_ite_split (λ_=>?_) (λc=>absurd (by decide +kernel) c);refine za (wpAny_typeOf d ?_);exact zb h
theorem Yk:∀{xs:List Str}{acc:Array Value},ItemsOf (PSt xs) acc xs.length->StrsAre acc.toList xs:=by
 intro xs acc h
 have e:∀(b:List Value) (xs:List Str),b.length=xs.length->(∀i v,b[i]?=some v->PSt xs i v)->StrsAre b xs:=λb=>by
  induction b with
  |nil=>intro xs d _;cases xs with
   |nil=>exact .nil
   |cons x xs=>cases d
  |cons v b ih =>
   intro xs d c
   cases xs with
   |nil=>cases d
   |cons x xs =>
    obtain⟨y,t,g,f⟩:=c 0 v rfl;cases g;subst f;refine .cons x t (ih xs (Nat.succ.inj d) λi u k=>?_);obtain⟨y,j,g,f⟩:=c (i+1) u k;exact⟨y,j,g,f⟩
 refine e _ _ ?_ λi v c=>?_
 ·rw[Array.length_toList];exact h.1
 ·rw[Array.getElem?_toList] at c;exact h.2 i v c
theorem Yl{R:List Value->Shared->Prop}(hh:A.handled=none)(X:dj prog w s.heap a ss)(Z:ss≠[])
  (h:∀(c:Shared) (acc:List Value) (xs:List Str),(∀b o,s.heap.get? b=some o->c.heap.get? b=some o)->c.gens=s.gens->c.os=s.os->s.heap.objs.size<c.heap.objs.size->StrsAre acc xs->xs.Perm ss->R acc c):
  wpAny (model prog w) A (collect (.ref a)) R E s:=by
 have O:a<s.heap.objs.size:=by obtain⟨_,_,_,_,x⟩:=X;exact zj x.1
 unfold collect;refine za (wpAny_runValue (jc entry_proto_collect' ?_));rw[Around.under_plainId PySem.F.plain_proto_collect _];show wpAny _ A.in1 (newList [] >>= λl=>again (.builtin "list.__iadd__" ⟨[l,.ref a],[]⟩)) _ _ s;refine za (wpAny_newObj_type ?_);refine zb ⟨plainId_quiet PySem.F.plain_list_iadd _,jc entry_list_iadd' ?_⟩;rw[Around.under_plainId PySem.F.plain_list_iadd _];have C:(s.heap.push {cls:=.type "list",data:=.seq ([]:List Value).toArray}).get? s.heap.objs.size=some {cls:=.type "list",data:=.seq #[]}:=zw _ rfl
 have n:dj prog w (s.heap.push {cls:=.type "list",data:=.seq ([]:List Value).toArray}) a ss:=X.at λo e=>zm _ e
 show wpAny _ A.in1 (Builtin.List.listExtendWith (.ref s.heap.objs.size) (.ref a) (.ref s.heap.objs.size)) _ _ _;unfold Builtin.List.listExtendWith
 have hT:Shared.TypeIs {s with heap:=s.heap.push {cls:=.type "list",data:=.seq ([]:List Value).toArray}} (.ref a) "set":=by
  obtain⟨o,_,_,_,x⟩:=n;exact⟨o,x.1,x.2.1.1⟩
 refine za (wpAny_typeOf (T:="set") hT ?_)
 have h1:Builtin.List.listSameRef (.ref s.heap.objs.size) (.ref a)=false:=by simp[Builtin.List.listSameRef,Nat.ne_of_gt O]
 simp only[h1,show(Value.type "set" == Value.type "list")=false by decide,show(Value.type "set" == Value.type "tuple")=false by decide,Bool.or_false,Bool.false_eq_true,if_false];refine za (Yi (s:={s with heap:=s.heap.push {cls:=.type "list",data:=.seq ([]:List Value).toArray}}) (by simp[hh]) n Z λj I fp St xs k eg eo et hp Q hfp W st=>?_);have y:=k _ _ C;have Y:(s.heap.push {cls:=.type "list",data:=.seq ([]:List Value).toArray}).objs.size=s.heap.objs.size+1:=Heap.size_push _ _
 have r:s.heap.objs.size∉fp:=λi=>by
  rcases hfp _ i with z | z
  ·exact Nat.ne_of_gt O z
  ·change (s.heap.push {cls:=.type "list",data:=.seq ([]:List Value).toArray}).objs.size<=_ at z
   omega
 have hSI:s.heap.objs.size≠I:=λe=>by
  change (s.heap.push {cls:=.type "list",data:=.seq ([]:List Value).toArray}).objs.size<=I at Q
  omega
 have hn:xs.length<=sizeLine:=by
  have:=X.len
  rw[hp.length_eq,sizeLine_eq];unfold scanBound at this;omega
 refine za (zP (Yj ?_ ?_))
 ·obtain⟨o,ho,hc⟩:=hT;exact⟨o,k _ _ ho,hc⟩
 have P:∀(c:Shared) (d:Array Value) (G:Nat),(∀b o,s.heap.get? b=some o->c.heap.get? b=some o)->c.gens=s.gens->c.os=s.os->s.toks<=c.toks->c.heap.get? s.heap.objs.size=some {cls:=.type "list",dict:=none,data:=.seq d G,slots:=#[]}->ItemsOf (PSt xs) d xs.length ->
   wpAny (model prog w) A (load s.heap.objs.size >>= λo=>match o.data with | .seq xs _=>pure xs.toList | _=>unsupported "internal:collect") R E c:=λc d G L J H U e5 e6 =>
  za (wpAny_load e5 (zb (h c _ xs L J H (zj e5) (Yk e6) hp)))
 have kk:∀(c:Shared) (h2:Heap),(∀b o,b≠s.heap.objs.size->j.heap.get? b=some o->h2.get? b=some o)->Moved (s.heap.objs.size :: [I]) Eq {j with heap:=h2} c->(∀b o,s.heap.get? b=some o->c.heap.get? b=some o)/\c.gens=s.gens/\c.os=s.os/\s.toks<=c.toks:=λc h2 q i=>by
  refine⟨λb o e=>?_,?_,i.os.trans eo,?_⟩
  ·have m:=zj e;refine i.heap b o (λz=>?_) (q b o (zp m) (k b o (zm _ e)))
   rcases zk.mp z with z | z
   ·exact zp m z
   ·change (s.heap.push {cls:=.type "list",data:=.seq ([]:List Value).toArray}).objs.size<=I at Q
    have z':=zt.mp z;rw[<-z',Y] at Q;exact absurd m (Nat.not_lt.mpr (Nat.le_of_succ_le Q))
  ·exact i.gens.symm.trans eg
  ·have:=i.toks
   have et':j.toks=s.toks:=et;rw[<-et'];exact this
 refine wpAny_ite_split (λ_=>?_) (λ_=>zb ⟨plainId_quiet PySem.F.plain_extend_loop _,?_⟩)
 ·refine za (zX ?_);refine za ?_;show wpAny _ _ (updateSeq s.heap.objs.size (·.push .none) >>= λ_=>updateSeq s.heap.objs.size (·.pop)) _ _ _;refine za (jo y rfl ?_);have g:=Heap.get?_update_self (Obj.mapSeq (·.push Value.none)) y rfl;refine jo (hz:=by seq_fits) g rfl ?_;have B:=Heap.get?_update_self (Obj.mapSeq (·.pop)) g rfl
  have hk:∀b o,b≠s.heap.objs.size->j.heap.get? b=some o->((j.heap.update s.heap.objs.size (Obj.mapSeq (·.push Value.none))).update s.heap.objs.size (Obj.mapSeq (·.pop))).get? b=some o:=λb o m e =>
   (jl _ _ (Ne.symm m)).trans ((jl _ _ (Ne.symm m)).trans e)
  refine zb ⟨plainId_quiet PySem.F.plain_extend_loop _,?_⟩
  refine codeAny_extend_loopS W hn s.heap.objs.size r (.ref s.heap.objs.size) xs.length 0 _ #[] _ rfl (Nat.zero_le _) ?_ B (ItemsOf.nil _) λc d G i u f=>?_
  ·exact W.frame 0 j _ j.toks st (zc _) λb m o e=>hk b o (λz=>r (z ▸ m)) e
  ·obtain⟨L,J,H,U⟩:=kk c _ hk i;exact P c d G L J H U u f
 ·refine codeAny_extend_loopS W hn s.heap.objs.size r (.ref s.heap.objs.size) xs.length 0 _ #[] _ rfl (Nat.zero_le _) st y (ItemsOf.nil _) λc d G i u f=>?_
  obtain⟨L,J,H,U⟩:=kk c j.heap (λb o _ e=>e) i;exact P c d G L J H U u f
theorem Ym{Q:Value->Shared->Prop}(F:A.handled=none)(H:dj prog w s.heap a ss)(n:ss≠[])(O:ss.length<64)
  (h:∀(j:Shared) (D:Addr) (c:Nat) (out:List Value) (d:List Str),(∀b o,s.heap.get? b=some o->j.heap.get? b=some o)->j.gens=s.gens->j.os=s.os->s.heap.objs.size<=D->j.heap.get? D=some (seqObj "list" out.toArray c) ->
   StrsAre out d->d.Perm ss->sortedS d=true->Q (.ref D) j):
  wpAny (model prog w) A (call (.builtin "sorted") [.ref a]) Q E s:=by
 refine Calls.call_function_entry kind_sorted plain_sorted entry_sorted (args_sorted1 _) ?_;unfold Builtin.«sorted»;refine za (m:=checkCount "sorted" 1 1 _) (zb ?_);refine za (Yl (by simp[F]) H n λf vs P k L J I g q=>?_)
 have hlen:vs.length=ss.length:=by rw[<-q.length_eq,<-g.strs,ze]
 refine za (wpAny_newList ?_ (by rw[sizeLine_eq];omega));have i:(f.heap.push (seqObj "list" vs.toArray 0)).get? f.heap.objs.size=some (seqObj "list" vs.toArray 0):=zw _ rfl;show wpAny _ _ _ _ _ {f with heap:=f.heap.push (seqObj "list" vs.toArray 0)};refine za (zP (wpAny_call_entry slot_list_sort ⟨_,i,rfl⟩ entry_list_sort (list_sort_treeK (s:={f with heap:=f.heap.push (seqObj "list" vs.toArray 0)}) strKind_oneLt i g.keysOf (λx u rest e=>keyKind_strs (by rw[<-e];exact g)) (by omega) λl a1 a2=>⟨_,rfl,?_⟩) (args_list_sort _)));obtain⟨d,C,B,y⟩:=sorted_out_str g a1 a2
 obtain⟨c,G⟩:=sortedHeap_at (vs:=vs) (out:=((arrOf l).map (·.2))) i;refine zb ⟨_,rfl,h _ f.heap.objs.size c _ d (λb o e=>?_) L J ?_ (by rw[Array.toArray_toList];exact G) C (B.trans q) y⟩
 ·have r:=zj (k b o e);show(sortedHeap (f.heap.push (seqObj "list" vs.toArray 0)) f.heap.objs.size vs ((arrOf l).map (·.2))).get? b=some o;rw[sortedHeap_old (zp r) (by rw[size_push'];exact je r)];exact zm _ (k b o e)
 ·exact Nat.le_of_lt I
end
theorem yC{a b:List Nat}(h:¬b<a):a<b\/a=b:=by
 by_cases q:a<b
 ·exact .inl q
 ·exact .inr (List.le_antisymm (List.not_lt.mp h) (List.not_lt.mp q))
def mF(x:List Nat):List (List Nat)->List (List Nat)
 | []=>[x]
 |y::r=>if x<y then x::y::r else if x=y then y::r else y::mF x r
def lA(l:List (List Nat)):List (List Nat):=l.foldr mF []
def stepT(ss:List (List Nat))(x:List Nat):List (List Nat):=if x∈ss then ss else ss++[x]
theorem yD(x y:List Nat):∀l,y∈mF x l↔y=x\/y∈l
 | []=>by simp[mF]
 |z::r=>by
  unfold mF
  split
  ·simp
  ·split
   ·rename_i e;subst e;simp
   ·rw[zk,yD x y r,zk];constructor
    ·rintro(h | h | h)
     ·exact .inr (.inl h)
     ·exact .inl h
     ·exact .inr (.inr h)
    ·rintro(h | h | h)
     ·exact .inr (.inl h)
     ·exact .inl h
     ·exact .inr (.inr h)
theorem JS(x:List Nat):∀l,l.Pairwise (· < ·)->(mF x l).Pairwise (· < ·)
 | [],_=>List.pairwise_singleton _ _
 |y::r,h=>by
  obtain⟨h1,h2⟩:=List.pairwise_cons.mp h;unfold mF
  split
  ·rename_i b;refine List.pairwise_cons.mpr ⟨λz a=>?_,h⟩
   rcases zk.mp a with rfl | a
   ·exact b
   ·exact List.lt_trans b (h1 z a)
  ·split
   ·exact h
   ·rename_i c d;refine List.pairwise_cons.mpr ⟨λz a=>?_,JS x r h2⟩
    rcases(yD x z r).mp a with rfl | a
    ·rcases yC c with q | q
     ·exact q
     ·exact absurd q.symm d
    ·exact h1 z a
theorem yE:∀l,(lA l).Pairwise (· < ·)
 | []=>.nil
 |x::l=>JS x _ (yE l)
theorem uN(y:List Nat):∀l,y∈lA l↔y∈l
 | []=>Iff.rfl
 |x::l=>by
  show y∈mF x (lA l)↔_;rw[yD,uN y l,zk]
theorem JT:∀(b a:List (List Nat)),b.Pairwise (· < ·)->a.Pairwise (· < ·)->(∀x,x∈b↔x∈a)->b=a
 | [],[],_,_,_=>rfl
 | [],y::a,_,_,h=>nomatch (h y).mpr zg
 |x::b,[],_,_,h=>nomatch (h x).mp zg
 |x::b,y::a,h1,h2,h=>by
  obtain⟨a1,a2⟩:=List.pairwise_cons.mp h1;obtain⟨d,f⟩:=List.pairwise_cons.mp h2
  have e:x=y:=by
   rcases zk.mp ((h x).mp zg) with e | e
   ·exact e
   ·rcases zk.mp ((h y).mpr zg) with q | q
    ·exact q.symm
    ·exact absurd (List.lt_trans (d x e) (a1 y q)) (List.lt_irrefl y)
  subst e;rw[JT b a a2 f λz=>?_];constructor
  ·intro c
   rcases zk.mp ((h z).mp (zn _ c)) with q | q
   ·subst q;exact absurd (a1 z c) (List.lt_irrefl z)
   ·exact q
  ·intro c
   rcases zk.mp ((h z).mpr (zn _ c)) with q | q
   ·subst q;exact absurd (d z c) (List.lt_irrefl z)
   ·exact q
theorem Yn(l:List (List Nat))(x:List Nat):fP (l.map S) (S x)=(stepT l x).map S:=by
 unfold fP stepT
 by_cases h:x∈l
 ·rw[if_pos h,if_pos (zz.mpr ⟨x,h,rfl⟩)]
 ·rw[if_neg h,if_neg λz=>?_,zW];rfl;obtain⟨y,a,e⟩:=zz.mp z;rw[m5 e] at a;exact h a
theorem uO:∀(xs acc:List (List Nat)),(xs.map S).foldl fP (acc.map S)=(xs.foldl stepT acc).map S
 | [],acc=>rfl
 |x::xs,acc=>by
  rw[zh,List.foldl_cons,List.foldl_cons,Yn];exact uO xs _
theorem uP(y:List Nat):∀(xs acc:List (List Nat)),y∈xs.foldl stepT acc↔y∈acc\/y∈xs
 | [],acc=>by simp
 |x::xs,acc=>by
  rw[List.foldl_cons,uP y xs];unfold stepT
  split
  ·rename_i h;constructor
   ·rintro(q | q)
    ·exact .inl q
    ·exact .inr (zn _ q)
   ·rintro(q | q)
    ·exact .inl q
    ·rcases zk.mp q with rfl | q
     ·exact .inl h
     ·exact .inr q
  ·rw[zE,zt,zk,or_assoc]
theorem yF:∀(xs acc:List (List Nat)),acc.Nodup->(xs.foldl stepT acc).Nodup
 | [],acc,h=>h
 |x::xs,acc,h=>by
  rw[List.foldl_cons];refine yF xs _ ?_;unfold stepT
  split
  ·exact h
  ·rename_i d;rw[jj];refine⟨h,by simp,λa f b c=>?_⟩;rw[zt] at c;subst c;intro e;subst e;exact d f
theorem JV:∀(l:List Str),sortedS l=true->(l.map λx=>x.cps.toList).Pairwise (λa b=>¬b<a)
 | [],_=>.nil
 | [x],_=>List.pairwise_singleton _ _
 |x::y::r,h=>by
  have h':risingS x (y::r)=true:=h;unfold risingS at h';rw[zr,Bool.not_eq_true',ltCps_eq,decide_eq_false_iff_not] at h';have f:=JV (y::r) h'.2;rw[zh];refine List.pairwise_cons.mpr ⟨λz c=>?_,f⟩;rw[zh] at c f
  rcases zk.mp c with rfl | c
  ·exact h'.1
  ·have:=(List.pairwise_cons.mp f).1 z c
   intro q
   rcases yC h'.1 with d | d
   ·exact this (List.lt_trans q d)
   ·rw[d] at q;exact this q
theorem Yo{l:List (List Nat)}{ss:List Str}(d:ss.Perm ((l.map S).foldl fP []))(hs:sortedS ss=true):ss=(lA l).map S:=by
 have e:=uO l [];rw[zL] at e;rw[e] at d
 have f:(ss.map λx:Str=>x.cps.toList)=lA l:=by
  have c:(ss.map λx:Str=>x.cps.toList).Perm (l.foldl stepT []):=by
   refine(d.map _).trans ?_;rw[zO];rw[show((λx:Str=>x.cps.toList) ∘ S)=id from funext λa=>iH a,List.map_id]
  have g:=c.nodup_iff.mpr (yF l [] .nil)
  refine JT _ _ ?_ (yE l) λx=>?_
  ·refine(List.Pairwise.and (JV ss hs) g).imp λ{a b} h=>?_
   rcases yC h.1 with q | q
   ·exact q
   ·exact absurd q h.2
  ·rw[uN,c.mem_iff,uP];simp
 have i:∀x:Str,S x.cps.toList=x:=λx=>by cases x;simp[S]
 rw[<-f,zO]
 conv=>lhs;rw[<-List.map_id ss]
 exact jm λx _=>(i x).symm
section
variable {X:Cx}
theorem Inv.drew{X:Cx}{pins:List (Addr×Obj)}{σ:St}{H:Hp}{s:Shared}{d:Drawn}(I:Inv X pins σ H s):Inv X pins σ H {s with drawn:=d}:=⟨I.ok,I.os,I.bare,I.base,I.loc,I.cell,I.free,I.freeC,I.pin,I.hok,I.len⟩
theorem JW:∀{ss:List Str}{its:List Value},aW (ss.map V.str) its->StrsAre its ss
 | [],_,h=>by cases h;exact .nil
 |x::ss,_,h=>by
  cases h with
  |cons a b =>
   obtain⟨t,rfl⟩:=a;exact .cons x t (JW b)
theorem JX:∀{ss:List Str}{its:List Value},StrsAre its ss->aW (ss.map V.str) its
 | _,_,.nil=>.nil
 | _,_,.cons x t h=>.cons ⟨t,rfl⟩ (JX h)
def Yp(P:Program)(w:World)(K:Frag):List V->Hp->VK->Prop:=λb H Q=>∃(a:Addr) (ss:List Str),b=[.ref a]/\SqL K H a (ss.map V.str)/\ss.length<4000/\∀l,H l=none->Q (.ref l) (upd H l (.ext λh=>dj P w h l (ss.foldl fP [])))
theorem Yq(m:X.calm=true):j7 X (.type "set") (Yp X.prog X.w X.K):=by
 intro pins s σ H t y Q I r h;obtain⟨a,ss,rfl,l,C,q⟩:=h;obtain⟨u,rfl,f⟩:=vals1 r;cases f;obtain⟨b,c,j,B⟩:=I.list l
 have hlen:b.length=ss.length:=by have:=c.length;rw[ze] at this;exact this.symm
 refine X4 (I.ok.hd m) j.isList (ns:=ss) (JW c) (by rw[zy,hlen];unfold scanBound;omega) λn tk d k=>?_
 refine⟨.ref s.heap.objs.size,_,I.laid (t':=tk) k (zc _) (show cC X.prog X.w _ n _ (.ext _) from⟨d,?_,λh1 h2 i g=>dj.at i g⟩),rfl,q _ (I.hok.fresh (zc _))⟩;obtain⟨o,_,_,_,x⟩:=d;exact⟨o,x.1⟩
def Yr(P:Program)(w:World):List V->Hp->VK->Prop:=λc H Q=>∃(a:Addr) (ss:List Str),c=[.ref a]/\H a=some (.ext λh=>dj P w h a ss)/\ss≠[]/\ss.length<64/\∀l b,b.Perm ss->sortedS b=true->H l=none->Q (.ref l) (upd H l (.lst (b.map V.str)))
theorem Ys(F:X.calm=true):j7 X (.builtin "sorted") (Yr X.prog X.w):=by
 intro pins s σ H P R Q I r h;obtain⟨a,ss,rfl,G,j,m,q⟩:=h;obtain⟨u,rfl,C⟩:=vals1 r;cases C;have J:dj X.prog X.w s.heap a ss:=(I.hok a _ G).1
 refine Ym (I.ok.hd F) J j m λB D c out b k y x t l g n E=>?_
 obtain⟨L,O,T,d,f⟩:=B
 change O=s.gens at y
 change f=s.os at x
 subst y;subst x
 have i:(b.map V.str).length<=sizeLine:=by rw[ze,n.length_eq,sizeLine_eq];omega
 exact⟨.ref D,_,(I.laid (t':=d) k t (show cC X.prog X.w _ L _ (.lst (b.map V.str)) from⟨i,out,c,JX g,l⟩)).drew,rfl,q _ _ n E (I.hok.fresh t)⟩
def strsT:List D->Option (List (List Nat))
 | []=>some []
 | .str l::ds=>(strsT ds).map (l :: ·)
 | _=>none
def uQ(d:D):Option D:=match d with
 | .lst ds=>match strsT ds with
  |some l=>if l.length<4000/\l≠[]/\(l.foldl stepT []).length<64 then some (.lst ((lA l).map .str)) else none
  |none=>none
 | _=>none
def rQ:List D->Option D
 | [d]=>uQ d
 | _=>none
theorem Rps.strsT{K:Frag}{F:Hp}{a:List Addr}:∀{ds:List D}{xs:List V}{l:List (List Nat)},Rps K F a xs ds->L2.strsT ds=some l->xs=(l.map S).map V.str
 | [],xs,l,h,e=>by cases e;exact h
 |d::ds,xs,l,h,e=>by
  obtain⟨x,b,rfl,h3,h4⟩:=h.un
  cases d with
  |str t =>
   unfold L2.strsT at e
   cases q:L2.strsT ds with
   |none=>rw[q] at e;cases e
   |some l' =>
    rw[q] at e;cases e;rw[Rps.strsT h4 q];show x::_=_;rw[show x=V.str (S t) from h3];rfl
  | _=>cases e
theorem Rps.ofStrs{K:Frag}{F:Hp}{a:List Addr}:∀l:List (List Nat),Rps K F a ((l.map S).map V.str) (l.map D.str)
 | []=>Rps.nil
 |x::l=>Rps.cons (show Rp K F a (V.str (S x)) (.str x) from rfl) (Rps.ofStrs l)
variable {md:List Md}{P:Pt}
theorem Yt{e:Expr}{p1 Z t i:Pos}{ms:List Md}{ma:M (List D)}(u:X.calm=true)(R:X.mg "sorted" = none)(L:X.mg "set" = none)(ha:AE X md P ms [e] ma)(W:Gl X "sorted":=by rfl)(U:Gl X "set":=by rfl)
  (he:starEach [e] X.env=(false,eval e X.env)::starEach [] X.env:=by exact cV rfl) (I:(backTo i (starEach [] X.env)).any (·.1)=false:=by exact dW rfl)
  (m:starEach [Expr.Call (.Name "set" t) [e] [] i] X.env=(false,eval (Expr.Call (.Name "set" t) [e] [] i) X.env)::starEach [] X.env:=by exact cV rfl) (n:(backTo Z (starEach [] X.env)).any (·.1)=false:=by exact dW rfl):
  OE X md P (.Call (.Name "sorted" p1) [.Call (.Name "set" t) [e] [] i] [] Z) (bx rQ ma):=by
 have T:PE X (.Call (.Name "set" t) [e] [] i) _:=Hi (Yq u) U L (by decide +kernel) ha (by decide) (by decide) he I
 refine(xu (Ys u) W R (by decide +kernel) (gW T jz m) (by decide) (by decide) m n).imp λσ H Q q=>?_
 obtain⟨ρ,O,F,as,d,O',r,s,e,k⟩:=q;obtain⟨ds,O1,e1,e⟩:=Res.bind_ok e;split at e
 ·rename_i y g;cases e;refine⟨ρ,_,F,as,_,_,r,s,e1,λvs H1 F1 Y g1 B hv=>?_⟩;have j:=hv.lks B
  generalize hds:ds.map (bK O')=es at g j
  unfold rQ at g;split at g
  ·rename_i d0;obtain⟨v,rfl,G⟩:=j.one;unfold uQ at g;split at g
   ·rename_i ds0;split at g
    ·rename_i l hl;split at g
     ·rename_i f;cases g;obtain⟨p,xs,rfl,h1,h2⟩:=G.list B.fh;have E:=Rps.strsT h2 hl;subst E;refine⟨p,l.map S,rfl,h1.sq,by rw[ze];exact f.1,λa C=>?_⟩
      have J:(l.map S).foldl fP []≠[]:=λz=>by
       have h:=uO l [];rw[zL,z] at h
       cases hq:l.foldl stepT [] with
       |nil =>
        cases l with
        |nil=>exact f.2.1 rfl
        |cons x l' =>
         have:=(uP x (x::l') []).mpr (.inr zg)
         rw[hq] at this;cases this
       |cons x l'=>rw[hq] at h;cases h
      refine⟨a,_,rfl,cg,J,?_,λb ss' hp hs hB=>?_⟩
      ·have h:=uO l [];rw[zL] at h;rw[h,ze];exact f.2.2
      ·rw[Yo hp hs];refine oY (B.lay C) (λv' H' F' g' r' hw=>k v' H' F' Y (g1.trans ((Gr.lay C).trans g')) r' (du _ _ _ _ _ _ _ (λc u=>?_) hw)) hB (Rps.ofStrs _);refine g1.dm c ?_
       rcases Decidable.em (c=a) with z | z
       ·rw[z];exact C
       ·rwa [aQ z] at u
     ·cases g
    ·cases g
   ·cases g
  ·cases g
 ·cases e
end
structure b7(mg:Str->Option Value):Prop extends JB mg where
 set_:mg "set" = none
section
variable {prog:Program}{w:World}{A:Around}{E:Value->Shared->Prop}{s:Shared}{K:Frag}{H F:Hp}{as:List Addr}
end
section
variable {X:Cx}
end
end L2
namespace L2
open PySem PySem.Spec PyProof.Rows
section
variable {X:Cx}{md:List Md}{P:Pt}{R:RR}
end
section
variable {X:Cx}{md:List Md}{P:Pt}
variable {tg iter elt:Expr}{ifs:List Expr}{scope:Scope}{pos:Pos}{mi:M D}{g:MG}{t:M Bool}{e:M D}
end
end L2
namespace L2
open PySem PySem.Spec PyProof.Rows PySem.W
section
variable {X:Cx}{md:List Md}{P:Pt}{R:RR}
end
def bmV:List Value:=[.type "ValueError",.type "Exception",.type "BaseException",.type "object"]
section
variable {X:Cx}{md:List Md}{P:Pt}{R:RR}
end
section
variable {Pr:Program}{w:World}{K:Frag}{mg:Str->Option Value}{base:Heap}
end
section
variable {X:Cx}{pins:List (Addr×Obj)}{σ:St}{H:Hp}{s:Shared}{ea:Addr}{oe:Obj}
end
end L2
namespace L2
open PySem PySem.Spec PyProof.Rows PySem.W PySem.Calls PySem.Builtin PySem.Builtin.ObjectAttr PySem.Builtin.Getset_descriptor
section
variable {prog:Program}{w:World}{A:Around}{E:Value->Shared->Prop}{K:Frag}{a C:Addr}{o:Obj}{h:Heap}{g:Array GenState}{d:Drawn}{t:Nat}{os:OsState}
structure QCb(K:Frag)(C:Addr):Prop where
 ga:findIn K (.ref C) "__getattribute__" = some (some (.builtin "BaseException.__getattribute__"))
 na:findIn K (.ref C) "__getattr__" = some none
 ca:findIn K (.ref C) "__class__" = some (some (.builtin "object.__class__"))
 sp:specialIn K (.builtin "object.__class__") "__get__" = some (some (.builtin "getset_descriptor.__get__"))
 tk:takesIn K (.builtin "object.__class__")=some true
 ob:mroIn K C (.type "object")=some true
 be:mroIn K C (.type "BaseException")=some true
 cl:(clsIn K C).isSome=true
end
end L2
namespace L2
open PySem PySem.Spec PyProof.Rows PySem.W
section
variable {X:Cx}{ea C:Addr}{oe:Obj}
end
section
variable {X:Cx}{md:List Md}{P:Pt}{R:RR}
end
section
variable {X:Cx}{ea C:Addr}{oe:Obj}{i:Nat}{b:Bool}{n:Str}{p p1 pos:Pos}
end
end L2
namespace L2
open PySem PySem.Spec PyProof.Rows
section
variable {X:Cx}
variable {md:List Md}{P:Pt}
end
end L2
namespace L2
open PySem PySem.Spec PyProof.Rows PySem.W
section
variable {prog:Program}{w:World}{A:Around}{E:Value->Shared->Prop}
end
section
variable {X:Cx}{md:List Md}{P:Pt}{R:RR}
end
section
variable {X:Cx}{md:List Md}{P:Pt}{R:RR}
end
section
variable {X:Cx}{pins:List (Addr×Obj)}{σ:St}{H:Hp}{s:Shared}{ea:Addr}{oe:Obj}
end
section
variable {X:Cx}{md:List Md}{P:Pt}{R:RR}
end
section
variable {X:Cx}{ea C:Addr}{oe:Obj}{i ja jb:Nat}{b:Bool}{n na nb w1 w2:Str}{p p1 pos:Pos}
end
section
variable {X:Cx}{md:List Md}{P:Pt}{R:RR}
end
section
variable {X:Cx}{md:List Md}{P:Pt}{R:RR}
end
section
variable {X:Cx}{md:List Md}{P:Pt}{R:RR}
end
section
variable {Pr:Program}{w:World}{K:Frag}{mg:Str->Option Value}{base:Heap}
end
section
variable {X:Cx}{md:List Md}{P:Pt}{R:RR}
end
section
variable {X:Cx}{md:List Md}{P:Pt}{R:RR}{k:Nat}{c m:Str}{ps:List Str}{p pos apos:Pos}{o e:Expr}{es:List Expr}{pm:List Md}{cf:List D->aq->Res D}{mo:M D}{ma:M (List D)}
end
section
variable {X:Cx}{md:List Md}{P:Pt}{R:RR}
end
section
variable {Pr:Program}{w:World}{K:Frag}{mg:Str->Option Value}{base:Heap}{N:List Str}{qual:Str}{scope:Scope}{f:Addr}{cd:Value}{A:Around}{outer:List Env}{s0:Shared}{H0:Hp}{E E':XK}{pins:List (Addr×Obj)}{σ:St}{H:Hp}{s s':Shared}
end
section
variable {Pr:Program}{w:World}{K:Frag}{mg:Str->Option Value}{base:Heap}
end
section
variable {X:Cx}{md:List Md}{P:Pt}{R:RR}
end
section
variable {X:Cx}{md:List Md}{P:Pt}{R:RR}{k:Nat}{c m:Str}{ps:List Str}{p pos apos:Pos}{o e:Expr}{es:List Expr}{pm:List Md}{cf:List D->aq->Res D}{mo:M D}{ma:M (List D)}
end
section
variable {X:Cx}{md:List Md}{P:Pt}{R:RR}
end
end L2
namespace L2
open PySem PySem.Spec PyProof.Rows PySem.W PySem.Builtin PySem.Builtin.ObjectAttr
def Yu(K:Frag)(C:Addr)(a:List Value)(newId:String)(b:Addr):Bool:=match K.lookup C with
 |some ⟨.type "type",_,.cls cd,sl⟩=>(match cd.mro,sl.toList with
  | .ref C'::bm,[_,_,_,_,some (.builtin n),_]=>C' == C&&n == newId && !cd.hasDel&&tailIn K a bm&&nsOkIn K cd.ns&&nsIn K cd.ns "__init__" == some (some (.ref b))&&cd.hasDict
  | _,_=>false)
 | _=>false
section
variable {prog:Program}{w:World}{A:Around}{E:Value->Shared->Prop}{h:Heap}{g:Array GenState}{d:Drawn}{t:Nat}{os:OsState}
variable {nm q:Str}{C N:Addr}{bs bm bmB:List Value}{hdct:Bool}{sn:List Str}{sub:List Value}{ab:Bool}{col:Option Bool}{dd:Option Addr}{k0 k1 k2 k3 k5:Option Value}{B newId initId:String}
end
structure QCg(K:Frag)(C fI:Addr)(name:Str):Prop where
 cl:Yu K C bmV "ValueError.__new__" fI=true
 sa:findIn K (.ref C) "__setattr__" = some (some (.builtin "object.__setattr__"))
 na:findIn K (.ref C) name=some none
 ob:mroIn K C (.type "object")=some true
section
variable {X:Cx}{pins:List (Addr×Obj)}{σ:St}{H:Hp}{s:Shared}{ea C fI t:Addr}{name:Str}{v:V}{u:Value}
end
section
variable {Pr:Program}{w:World}{K:Frag}{mg:Str->Option Value}{base:Heap}
end
section
variable {prog:Program}{w:World}{A:Around}{E:Value->Shared->Prop}{s:Shared}{env:Env}
variable {nm q:Str}{C N:Addr}{bs bm:List Value}{hdct:Bool}{sn:List Str}{sub:List Value}{ab:Bool}{col:Option Bool}{dd:Option Addr}{k0 k1 k2 k3 k5:Option Value}{newId:String}
end
section
variable {X:Cx}{md:List Md}{P:Pt}{R:RR}
end
end L2
namespace L2
open PySem PySem.Spec PyProof.Rows PySem.W
section
variable {X:Cx}{md:List Md}{P:Pt}{R:RR}{pins:List (Addr×Obj)}{σ:St}{H:Hp}{s:Shared}{ea:Addr}{oe:Obj}
end
end L2
namespace L2
open PySem PySem.Spec PyProof.Rows PySem.W PySem.Calls PySem.Builtin PySem.Builtin.ObjectAttr
section
variable {X:Cx}{md:List Md}{P:Pt}{R:RR}
end
section
variable {prog:Program}{w:World}{A:Around}{E:Value->Shared->Prop}{K:Frag}{a C:Addr}{o od:Obj}{h:Heap}{g:Array GenState}{d:Drawn}{t:Nat}{os:OsState}{name:Str}{v:Value}
end
section
variable {X:Cx}{md:List Md}{P:Pt}{R:RR}
end
end L2
namespace L2
open PySem PySem.Spec PyProof.Rows PySem.W
def Yv(A:Around):Around:={A with handled:=none}
structure QBI(P:Program)(w:World)(K:Frag)(mg:Str->Option Value)(base:Heap)(k:Nat)(f:Addr)(fd:FuncData)(ps:List Str)(sp:Sp):Prop where
 len:∀vs H Q E,sp vs H Q E->vs.length=ps.length
 run:∀(A:Around) (outer:List Env) (s:Shared) (H:Hp) (args:Args) (us:List Value) (vs:List V) (Q:VK) (E:XK),bC k (Yv A)->jA P w K mg base A outer s H->BindsTo s fd args (ps.zip us)->aW vs us->sp vs H Q E ->
  codeAny (model P w) A (.call (.ref f) args) (CR CX0 outer P w H s Q E) s
section
variable {Pr:Program}{w:World}{K:Frag}{mg:Str->Option Value}{base:Heap}
end
section
variable {X:Cx}{md:List Md}{P:Pt}{R:RR}
end
section
variable {X:Cx}{md:List Md}{P:Pt}{R:RR}
end
section
variable {X:Cx}{md:List Md}{P:Pt}{R:RR}
end
section
variable {Pr:Program}{w:World}{K:Frag}{mg:Str->Option Value}{base:Heap}
end
section
variable {X:Cx}{md:List Md}{P:Pt}{k:Nat}{c:Str}{ps:List Str}{p pos:Pos}{e:Expr}{es:List Expr}{pm:List Md}{cf:List D->aq->Res D}{ma:M (List D)}
end
end L2
namespace L2
open PySem PySem.Spec PyProof.Rows PySem.W PySem.Calls
section
variable {prog:Program}{w:World}{A:Around}{E:Value->Shared->Prop}{s:Shared}{R:Result->Shared->Prop}
end
section
variable {X:Cx}{md:List Md}{P:Pt}{R:RR}
structure QCh(mg:Str->Option Value):Prop extends Blt mg where
 any_:mg "any" = none
end
end L2
namespace L2
open PySem PySem.Spec PyProof.Rows PySem.W
section
variable {X:Cx}{pins:List (Addr×Obj)}{σ:St}{H:Hp}{s:Shared}{a:Addr}{xs:List (Key×V)}
end
section
variable {K:Frag}{mg:Str->Option Value}{O:aq}{H F:Hp}{as:List Addr}
end
section
variable {X:Cx}{md:List Md}{P:Pt}{R:RR}
end
section
variable {prog:Program}{w:World}{A:Around}{E:Value->Shared->Prop}{s:Shared}
end
section
variable {X:Cx}{md:List Md}{P:Pt}{R:RR}
end
structure QB1(P:Program)(w:World)(K:PySem.W.Frag)(mg:Str->Option Value)(base:Heap)(k:Nat)(f:Addr)(fd:FuncData)(ps:List Str)(sp:Sp):Prop where
 len:∀vs H Q E,sp vs H Q E->vs.length=ps.length
 run:∀(A:Around) (outer:List Env) (s:Shared) (H:Hp) (args:Args) (us:List Value) (vs:List V) (Q:VK) (E:XK),bC k A->jA P w K mg base A outer s H->BindsTo s fd args (ps.zip us)->aW vs us->sp vs H Q E ->
  codeAny (model P w) A (.call (.ref f) args) (λr s'=>1<=s'.toks/\CR CX0 outer P w H s Q E r s') s
section
variable {Pr:Program}{w:World}{K:Frag}{mg:Str->Option Value}{base:Heap}
end
section
variable {X:Cx}{md:List Md}{P:Pt}{R:RR}
end
section
variable {X:Cx}{md:List Md}{P:Pt}{R:RR}
end
section
variable {prog:Program}{w:World}{A:Around}{E:Value->Shared->Prop}{s:Shared}
end
section
variable {X:Cx}{md:List Md}{P:Pt}{R:RR}
end
section
variable {prog:Program}{w:World}{A:Around}{E:Value->Shared->Prop}{s:Shared}
end
section
variable {X:Cx}{pins:List (Addr×Obj)}{σ:St}{H:Hp}{s:Shared}{a:Addr}
end
section
variable {X:Cx}{md:List Md}{P:Pt}{R:RR}
end
section
variable {prog:Program}{w:World}{A:Around}{E:Value->Shared->Prop}{s:Shared}
structure ZT(h:Heap)(z TI TO i1 i2 l1 l2 k1 k2:Nat)(xs ys:Array Value):Prop where
 z:IsZip h z TI TO .none
 ti:IsPair h TI (.ref i1) (.ref i2)
 to:∃a b,IsPair h TO a b
 h1:h.IsTupleIter i1 l1 k1
 h2:h.IsTupleIter i2 l2 k2
 t1:h.IsTuple l1 xs
 t2:h.IsTuple l2 ys
end
section
variable {prog:Program}{w:World}{A:Around}{E:Value->Shared->Prop}{s:Shared}
end
section
variable {X:Cx}{md:List Md}{P:Pt}{R:RR}{elts:List Expr}{x1:Nat}{tpos:Pos}
end
abbrev KN(K:Frag)(H:Hp):List (NK×V)->List (NK×Addr×Value)->Prop:=Paired λp q=>p.1=q.1/\NAt K H p.1 q.2.1/\RelV p.2 q.2.2
theorem KN.val{K:Frag}{H:Hp}{kvs:List (NK×V)}{xs:List (NK×Addr×Value)}(r:KN K H kvs xs)(k:NK):eH (di kvs k) ((atKey xs k).map (·.2)):=by
 induction r with
 |nil=>exact True.intro
 | @cons p q ps qs h t ih =>
  obtain⟨h1,_,h2⟩:=h
  by_cases e:p.1=k
  ·have e':q.1=k:=h1.symm.trans e
   have b:atKey (q::qs) k=some q.2:=by simp[atKey,List.find?_cons,e']
   rw[qN e,b];exact h2
  ·have e':¬q.1=k:=λz=>e (h1.trans z)
   have b:atKey (q::qs) k=atKey qs k:=by simp[atKey,List.find?_cons,e']
   rw[qO e,b];exact ih
theorem KN.repl{K:Frag}{H:Hp}{kvs:List (NK×V)}{xs:List (NK×Addr×Value)}(r:KN K H kvs xs)(k:NK){y:V}{u:Value}(a:RelV y u):
  KN K H (kvs.map λkv=>if kv.1=k then(kv.1,y) else kv) (xs.map (putAt k u)):=by
 induction r with
 |nil=>exact .nil
 | @cons p q ps qs h t ih =>
  rw[zh,zh];refine .cons ?_ ih;obtain⟨h1,h2,h3⟩:=h;unfold putAt
  by_cases e:p.1=k
  ·rw[if_pos e,if_pos (h1.symm.trans e)];exact⟨h1,h2,a⟩
  ·rw[if_neg e,if_neg (λz=>e (h1.trans z))];exact⟨h1,h2,h3⟩
theorem KN.put{K:Frag}{H:Hp}{kvs:List (NK×V)}{xs:List (NK×Addr×Value)}(r:KN K H kvs xs)(k:NK){b:Addr}{y:V}{u:Value}(hb:NAt K H k b)(a:RelV y u):
  KN K H (putK kvs k y) (storedH xs k b u):=by
 have e:(kvs.any λkv=>decide (kv.1=k))=(atKey xs k).isSome:=by
  rw[xF,(r.val k).isSome_eq,Option.isSome_map]
 unfold putK storedH;rw[e]
 by_cases q:(atKey xs k).isSome=true
 ·rw[if_pos q,if_pos q];exact r.repl k a
 ·rw[if_neg q,if_neg q];exact Paired.snoc r ⟨rfl,hb,a⟩
theorem KN.keeps{K:Frag}{H a:Hp}{kvs:List (NK×V)}{xs:List (NK×Addr×Value)}(r:KN K H kvs xs)(c:∀b ys,H b=some (.tup ys)->a b=some (.tup ys)):KN K a kvs xs :=
 Paired.mapP r λ_ _ z=>⟨z.1,z.2.1.mono c,z.2.2⟩
section
variable {P:Program}{w:World}{H:Hp}{h:Heap}{a:Addr}{K:Frag}
theorem yG{k:NK}(ok:HOk P w H h)(kin:K.In h)(e:NAt K H k a):(oH P w).is h k a:=by
 obtain⟨c,G,d⟩:=e;obtain⟨_,f,r,o,h1,h2,n,h3⟩:=(show cC P w H h a (.tup [.int k.1,.ref c]) from ok a _ G);have r':aW [.int k.1,.ref c] f:=r
 cases r' with
 | @cons _ u _ us r1 r2 =>
  cases r2 with
  | @cons _ u2 _ us2 r3 r4 =>
   cases r4;obtain rfl:u2=Value.ref c:=r3;refine⟨o,_,n,u,c,h1,h2,h3,by simp,ug (k:=.inl k.1) r1,?_⟩
   rcases d with d | ⟨m,g,x,F,E,C,I,B⟩
   ·obtain⟨_,b,q,t,l,j,y,i⟩:=(show cC P w H h c (.tup (k.2.map kV)) from ok c _ d);exact⟨t,b.toArray,y,l,j,i,by simpa using uh q⟩
   ·exact⟨m,g,x,kin _ _ F,E,C,uh B⟩
theorem yH{kvs:List (NK×V)}(ok:HOk P w H h)(kin:K.In h)(e:Rd H a (.dN K kvs)):kvs.length<=sizeLine/\(a == sysModules)=false /\
  ∃xs,KN K H kvs xs/\h.DictOfH (oH P w) a xs:=by
 obtain⟨z,y,xs,r,o,d,f,h1,h2,h3,h4,c⟩:=(show cC P w H h a (.dN K kvs) from xG ok e);refine⟨z,y,xs,r,o,d,f,h1,h2,h3,h4,λx b=>?_,c⟩
 have all:∀{l:List (NK×V)}{m:List (NK×Addr×Value)},KN K H l m->∀x∈m,(oH P w).is h x.1 x.2.1:=by
  intro l m q
  induction q with
  |nil=>intro x b;exact nomatch b
  | @cons p q ps qs hq t ih =>
   intro x b
   rcases zk.mp b with e | b
   ·subst e;exact yG ok kin (by rw[<-hq.1];exact hq.2.1)
   ·exact ih x b
 exact all r x b
end
theorem JZ{P:Program}{w:World}{A:Around}(a:A.units+6<cLine):(oH P w).room A.in1:=by
 show A.units+1+4<cLine;omega
theorem n6{A:Around}{k:Nat}(a:bC k A):A.units+6<cLine:=Nat.lt_of_le_of_lt (Nat.add_le_add_left (by decide:6<=64) _) a.units
def yI(K:Frag)(H:Hp)(a:Addr)(y:V)(r:Option V):Prop:=∃kvs k b,Rd H a (.dN K kvs)/\y=.ref b/\NAt K H k b/\r=di kvs k
section
variable {X:Cx}{pins:List (Addr×Obj)}{σ:St}{H:Hp}{s:Shared}{a:Addr}{y v:V}{u r:Value}{o:Option V}{A:Around}{E:Value->Shared->Prop}
theorem Yw{Q:Value->Shared->Prop}(q:A.units+6<cLine)(I:Inv X pins σ H s)(g:yI X.K H a y (some v))(m:RelV y u)(h:∀c i,Inv X pins σ H i->RelV v c->Q c i):
  wpAny (model X.prog X.w) A (getItem (.ref a) u) Q E s:=by
 obtain⟨kvs,k,b,e,x,B,l⟩:=g;subst x;cases(show u=Value.ref b from m);obtain⟨z,hd,j,rel,C⟩:=yH I.hok I.kIn e;obtain⟨c,n,d⟩:=eH.some_of (v:=v) (o:=(atKey j k).map (·.2)) (by rw[l];exact rel.val k);obtain⟨p,t,f⟩:=jq.mp n;refine wpAny_getItem_heap (JZ q) (yG I.hok I.kIn B) C t ?_;rw[f];exact h c _ (I.tok _) d
theorem Yx(I:Inv X pins σ H s)(g:yI X.K H a y o):∃ob,s.heap.get? a=some ob/\ob.cls=.type "dict":=by
 obtain⟨kvs,k,b,e,d,f,l⟩:=g;obtain⟨_,_,c,_,ob,_,_,h1,h2,_⟩:=yH I.hok I.kIn e;exact⟨ob,h1,h2.1⟩
theorem Yy{Q:Unit->Shared->Prop}{kvs:List (NK×V)}{k:NK}{b:Addr}(t:A.units+6<cLine)(I:Inv X pins σ H s)(e:H a=some (.dN X.K kvs))(j:NAt X.K H k b)(l:kvs.length<sizeLine)(rv:RelV v r)(h:∀f,Inv X pins σ (upd H a (.dN X.K (putK kvs k v))) f->Q () f):
  wpAny (model X.prog X.w) A (setItem (.ref a) (.ref b) r) Q E s:=by
 obtain⟨z,hd,m,rel,J⟩:=yH I.hok I.kIn (.inl e)
 have n:m.length<=sizeLine:=by rw[<-Paired.length rel];exact z
 have B:(putK kvs k v).length<=sizeLine:=by have:=Hs kvs k v;omega
 refine wpAny_setItem_heap (hsz:=n) (JZ t) (yG I.hok I.kIn j) J λO d x=>h _ ?_
 obtain⟨q,F,G,g,h2,h3,h4,_,C⟩:=d;refine Hw I (by rw[e];exact True.intro) x ⟨q,g⟩ ⟨B,hd,_,(rel.put k j rv).keeps λc L i=>?_,q,F,G,g,h2,h3,h4,C⟩;rw[aQ (ne_of i e (λz=>nomatch z))];exact i
end
def Yz(K:Frag)(c ty:TE):TE:=λσ H Q=>c σ H λx d=>ty σ d λy b=>∃a v,x=.ref a/\yI K b a y (some v)/\Q v b
def YB(K:Frag)(f ty d:TE):TS:=λD σ H=>d σ H λv h=>f σ h λx g=>ty σ g λy c=>∃a kvs k b,x=.ref a/\y=.ref b/\c a=some (.dN K kvs)/\NAt K c k b/\kvs.length<sizeLine/\D.nx σ (upd c a (.dN K (putK kvs k v)))
def YC(K:Frag):TE:=λ_ H Q=>∀p,H p=none->Q (.ref p) (upd H p (.dN K []))
section
variable {X:Cx}{o i e value:Expr}{pos pos' tpos:Pos}{td ty tv:TE}
theorem YD(c:X.A.units+6<cLine)(d:PE X o td)(f:PE X i ty)(hs:Hx i):PE X (.Subscript o i pos) (Yz X.K td ty):=by
 intro pins s σ H Q I h;refine Uy PySem.F.slot_dict_getitem.lookup hs (thn (d pins s σ H _ I h) λu s1 ⟨x,H1,I1,rx,q1⟩=>thn (f pins s1 σ H1 _ I1 q1) λiv s2 ⟨y,H2,I2,ry,a,v,ex,g,q2⟩=>?_);subst ex;obtain rfl:u=Value.ref a:=rx;exact⟨Yx I2 g,Yw c I2 g ry λk l j b=>⟨v,H2,j,b,q2⟩⟩
theorem YF(c:X.A.units+6<cLine)(d:PE X o td)(f:PE X i ty)(hv:PE X value tv)(hs:swapsWith value (some (.Subscript o i pos')) pos.line X.env=pure false):
  PS X (.Assign [.Subscript o i pos'] value pos) (YB X.K td ty tv):=by
 intro pins s σ H D I h;refine wpAny_Assign_Subscript (thn (hv pins s σ H _ I h) λr s1 ⟨v,H1,I1,rv,q1⟩=>thn (d pins s1 σ H1 _ I1 q1) λu s2 ⟨x,H2,I2,rx,q2⟩=>thn (f pins s2 σ H2 _ I2 q2) λiv s3 ⟨y,H3,I3,ry,a,kvs,k,b,ex,ey,e,eb,l,q3⟩=>?_) hs;subst ex ey;obtain rfl:u=Value.ref a:=rx;obtain rfl:iv=Value.ref b:=ry
 exact Yy c I3 e eb l rv λj g=>⟨σ,_,g,q3⟩
theorem YG:PE X (.Dict [] [] pos) (YC X.K):=λpins s σ H Q I h =>
 wpAny_Dict_empty ⟨.ref s.heap.objs.size,_,I.laid (a:=s.heap.objs.size) (o:=.dN X.K []) (t':=s.toks) (λ_ _ q=>zm _ q) (zc _)
  (show cC X.prog X.w _ _ _ (.dN X.K []) from⟨Nat.zero_le _,beq_eq_false_iff_ne.mpr (Ne.symm (zp I.big)),[],.nil,_,#[],0,zw _ rfl,⟨rfl,rfl,rfl⟩,rfl,rfl,List.nodup_nil⟩),rfl,h _ (I.hok.fresh (zc _))⟩
end
section
variable {X:Cx}{pins:List (Addr×Obj)}{σ:List (Option V)}{H:Hp}{s:Shared}{a:Addr}{xs:List (NK×V)}{o:Obj}
theorem Inv.base0N(I:Inv X pins σ H s)(e:H a=some (.dN X.K xs)):∀o u,X.H₀ a≠some (.frz o u):=λo u z=>by
 have:=I.base.frzs a o u z
 rw[e] at this;cases this
theorem Inv.freezeN(I:Inv X pins σ H s)(e:H a=some (.dN X.K xs)):∃o,s.heap.get? a=some o/\Inv X pins σ (upd H a (.frz o (.dN X.K xs))) s:=by
 have b:=I.hok a _ e
 obtain⟨o,d⟩:∃u,s.heap.get? a=some u:=by
  obtain⟨_,_,_,_,_,_,_,z,_⟩:=b;exact⟨_,z⟩
 refine⟨o,d,I.reword (by rw[e];exact λz=>nomatch z) (by rw[e];exact λ_ z=>nomatch z) (by rw[e];exact λ_ z=>nomatch z) (by rw[e];exact λ_ z=>nomatch z) (I.base0N e) ⟨d,?_⟩⟩
 exact cC.stay b (λ_ _ _ z=>z) (λc z=>by rw[aQ (λq=>by rw[q,e] at z;cases z)];exact z) λc f z=>by rw[aQ (λq=>by rw[q,e] at z;cases z)];exact z
theorem Inv.thawN(I:Inv X pins σ H s)(e:H a=some (.frz o (.dN X.K xs)))(d:∀o u,X.H₀ a≠some (.frz o u)):Inv X pins σ (upd H a (.dN X.K xs)) s:=by
 obtain⟨g,b⟩:=(show cC X.prog X.w H s.heap a (.frz o (.dN X.K xs)) from I.hok a _ e);refine I.reword (by rw[e];exact λz=>nomatch z) (by rw[e];exact λ_ z=>nomatch z) (by rw[e];exact λ_ z=>nomatch z) (by rw[e];exact λ_ z=>nomatch z) d ?_
 exact cC.stay b (λ_ _ _ z=>z) (λc z=>by rw[aQ (λq=>by rw[q,e] at z;cases z)];exact z) λc f z=>by rw[aQ (λq=>by rw[q,e] at z;cases z)];exact z
end
def yJ(K:Frag)(a:Addr)(o:Obj):It :=
 ⟨λi H=>∃c:List (NK×V),H a=some (.frz o (.dN K c))/\i<c.length,
  λi H x d=>d=H/\∀c:List (NK×V),H a=some (.frz o (.dN K c))->∃b p,x=.ref b/\c[i]?=some p/\NAt K H p.1 b,
  λi H=>∃c:List (NK×V),H a=some (.frz o (.dN K c))/\c.length<=i⟩
theorem yK{X:Cx}{pins:List (Addr×Obj)}{σ:St}{H:Hp}{s:Shared}{a:Addr}{o:Obj}{ys:List (NK×V)}(I:Inv X pins σ H s)(e:H a=some (.frz o (.dN X.K ys))):
  s.heap.get? a=some o/\(a == sysModules)=false/\o.ExactDict/\∃es ep,o.data=.dict es ep/\es.size=ys.length/\∀(i:Nat) (h:i<es.size),∃b p,es[i].key=.ref b/\ys[i]?=some p/\NAt X.K H p.1 b:=by
 obtain⟨h1,z,y,c,r,m,es,ep,h2,h3,h4,j,t⟩:=(show cC X.prog X.w H s.heap a (.frz o (.dN X.K ys)) from I.hok a _ e);rw[h1] at h2;cases h2
 have q:es.size=c.length:=by rw[<-Array.length_toList,j,ze]
 have n:ys.length=c.length:=r.length;refine⟨h1,y,h3,es,ep,h4,by omega,λi k=>?_⟩
 have g:i<c.length:=by omega
 have f:i<ys.length:=by omega
 have d:es.toList[i]?=some (entryOfKey (oH X.prog X.w) c[i]):=by rw[j,zA,zx g];rfl
 rw[Array.getElem?_toList,Array.getElem?_eq_getElem k] at d;have l:=XJ r (zx f) (zx g);refine⟨c[i].2.1,ys[i],?_,zx f,l.2.1⟩
 injection d with d
 rw[d];rfl
theorem YH{P:Program}{w:World}{K:Frag}{tg:Expr}(a it:Addr)(o:Obj)(es:Array DictEntry)(ep:Nat)(hd:o.data=.dict es ep):Turn P w K tg (yJ K a o) [it] it (λi h=>h.IsKeyIter it a i es.size ep) where
 mem:=by simp
 obj:=λi h st b hb=>by
  have e:b=it:=by simpa using hb
  subst e;obtain⟨o,e,c,d⟩:=st;exact⟨o,e,λv z=>by rw[d] at z;cases z⟩
 keep:=λi h h' st k=>st.at λo e=>k it (by simp) o e
 item:=by
  intro X hP hw hK hc i pins s σ H E I hf st hg;subst hP hw hK;obtain⟨ys,hq,hlt⟩:=hg;obtain⟨q1,q2,q3,es',ep',q4,q5,q6⟩:=yK I hq;rw[hd] at q4;cases q4;obtain⟨f0,f1,f2,f3,f4,f5⟩:=hf it (by simp)
  have hi:i<es.size:=by omega
  refine XD st q1 hd rfl hi λh' st' sb=>?_
  have I1:Inv X pins σ H {s with heap:=h'}:=I.turned (t':=s.toks) (λb o hb e=>(sb.2 b hb).trans e) f0 f1 f3 f4 f5;obtain⟨b,p,k1,k2,k3⟩:=q6 i hi;rw[k1];obtain⟨o2,e,c,d⟩:=id st';refine⟨_,rfl,oJ (s:={s with heap:=h'}) e c d (by decide) ⟨.ref b,H,I1,rfl,⟨rfl,λzs hz=>?_⟩,st',λb hb=>(hf b hb).1⟩⟩;rw[hq] at hz;cases hz;exact⟨b,p,rfl,k2,k3⟩
 done:=by
  intro X hP hw hK hc i pins s σ H E I hf st hg;subst hP hw hK;obtain⟨ys,hq,hge⟩:=hg;obtain⟨q1,q2,q3,es',ep',q4,q5,q6⟩:=yK I hq;rw[hd] at q4;cases q4;obtain⟨f0,f1,f2,f3,f4,f5⟩:=hf it (by simp)
  exact XH (I.ok.hd hc) st q1 hd rfl (by omega) λh' eb=>⟨rfl,I.turned (t':=s.toks) (λb o hb e=>eb b o hb e) f0 f1 f3 f4 f5⟩
 self:=λ_ _ _ _ _ st h=>wpAny_pyIter_keyiter st h
def YJ(K:Frag)(tl:TE):TI:=λσ H R=>tl σ H λx c=>∃a b,x=.ref a/\c a=some (.dN K b)/\∀o,R (yJ K a o) (upd c a (.frz o (.dN K b)))
theorem YK{X:Cx}{i l:Expr}{tl:TE}(n:PE X l tl):PI X i l (YJ X.K tl):=by
 intro pins s σ H R I h
 refine thn (n pins s σ H _ I h) λv s1 ⟨x,H1,I1,r1,d⟩=>?_
 obtain⟨a,g,e,m,q⟩:=d;subst e;cases r1;obtain⟨o,C,c⟩:=I1.freezeN m;obtain⟨d,k,j,t,u,f,B,y⟩:=yK c cg;refine XC k d j f ?_;refine⟨s1.heap.objs.size,[s1.heap.objs.size],_,_,upd H1 a (.frz o (.dN X.K g)),rfl,c.kept (t':=s1.toks) λb o e=>zm _ e,YH a _ o t u f,⟨_,zw _ rfl,rfl,rfl⟩,λb r=>?_,q o⟩
 have e:b=s1.heap.objs.size:=by simpa using r
 subst e;exact c.fpOk (zc _) (c.hok.fresh (zc _))
def valN(kvs:List (NK×D))(k:NK):Option D:=(kvs.find? λp=>decide (p.1=k)).map (·.2)
def putN(kvs:List (NK×D))(k:NK)(d:D):List (NK×D):=
 if(kvs.any λp=>decide (p.1=k))=true then kvs.map (λp=>if p.1=k then(p.1,d) else p) else kvs++[(k,d)]
def DnR(K:Frag)(F:Hp)(a:List Addr)(xs:List (NK×V))(kvs:List (NK×D)):Prop:=xs.map (·.1)=kvs.map (·.1)/\Rps K F a (xs.map (·.2)) (kvs.map (·.2))
section
variable {K:Frag}{mg:Str->Option Value}{O:aq}{H F H' F':Hp}{as as':List Addr}
theorem DnR.len{xs:List (NK×V)}{kvs:List (NK×D)}(h:DnR K F as xs kvs):xs.length=kvs.length:=by
 have:=congrArg List.length h.1
 simpa using this
theorem DnR.un{xs:List (NK×V)}{p:NK×D}{kvs:List (NK×D)}(h:DnR K F as xs (p::kvs)):∃v r,xs=(p.1,v)::r/\Rp K F as v p.2/\DnR K F as r kvs:=by
 obtain⟨h1,h2⟩:=h
 cases xs with
 |nil=>cases h1
 |cons x r =>
  obtain⟨v,d,e,c,b⟩:=h2.un;cases e;rw[zh,zh] at h1;have a:=(List.cons.inj h1).1;refine⟨x.2,r,?_,c,(List.cons.inj h1).2,b⟩;rw[<-a]
theorem DnR.val{k:NK}:∀{kvs:List (NK×D)}{xs:List (NK×V)},DnR K F as xs kvs->(valN kvs k=none/\di xs k=none)\/∃d v,valN kvs k=some d/\di xs k=some v/\Rp K F as v d
 | [],xs,h=>by
  have:=h.len
  cases xs with
  |nil=>exact .inl ⟨rfl,rfl⟩
  |cons=>cases this
 |p::kvs,xs,h=>by
  obtain⟨v,r,rfl,h1,h2⟩:=h.un
  by_cases e:p.1=k
  ·exact .inr ⟨p.2,v,by simp[valN,List.find?_cons,e],qN e,h1⟩
  ·rw[show valN (p::kvs) k=valN kvs k by simp[valN,List.find?_cons,e],qO (p:=(p.1,v)) e];exact DnR.val h2
theorem DnR.any{k:NK}:∀{kvs:List (NK×D)}{xs:List (NK×V)},DnR K F as xs kvs->(xs.any λp=>decide (p.1=k))=kvs.any λp=>decide (p.1=k)
 | [],xs,h=>by
  have:=h.len
  cases xs with
  |nil=>rfl
  |cons=>cases this
 |p::kvs,xs,h=>by
  obtain⟨v,r,rfl,h1,h2⟩:=h.un;rw[List.any_cons,List.any_cons,DnR.any h2]
theorem DnR.repl{k:NK}{v:V}{d:D}(hv:Rp K F as v d):∀{kvs:List (NK×D)}{xs:List (NK×V)},DnR K F as xs kvs ->
  DnR K F as (xs.map λp=>if p.1=k then(p.1,v) else p) (kvs.map λp=>if p.1=k then(p.1,d) else p)
 | [],xs,h=>by
  have:=h.len
  cases xs with
  |nil=>exact⟨rfl,Rps.nil⟩
  |cons=>cases this
 |p::kvs,xs,h=>by
  obtain⟨u,r,rfl,h1,h2⟩:=h.un;obtain⟨b,a⟩:=DnR.repl (k:=k) hv h2
  by_cases e:p.1=k
  ·rw[zh,zh,if_pos e,if_pos e];exact⟨by rw[zh,zh,b],Rps.cons hv a⟩
  ·rw[zh,zh,if_neg e,if_neg e];exact⟨by rw[zh,zh,b],Rps.cons h1 a⟩
theorem DnR.put{xs:List (NK×V)}{kvs:List (NK×D)}(h:DnR K F as xs kvs)(k:NK){v:V}{d:D}(hv:Rp K F as v d):DnR K F as (putK xs k v) (putN kvs k d):=by
 unfold putK putN;rw[h.any]
 split
 ·exact h.repl hv
 ·exact⟨by rw[zW,zW,h.1];rfl,by rw[zW,zW];exact Rps.snoc h.2 hv⟩
theorem RlO.dn{n:Nat}{a:Addr}{kvs:List (NK×D)}(r:RlO K mg O H F as)(b:as[n]?=some a)(c:O[n]?=some (.dn kvs)):∃xs,H a=some (.dN K xs)/\DnR K F as xs kvs:=let ⟨xs,h1,h2,h3⟩:=r.ob n a _ b c;⟨xs,h1,h2,h3⟩
theorem RlO.nf{n:Nat}{a:Addr}{kvs:List (NK×D)}(r:RlO K mg O H F as)(b:as[n]?=some a)(c:O[n]?=some (.nf kvs)):∃o xs,H a=some (.frz o (.dN K xs))/\DnR K F as xs kvs:=let ⟨o,xs,h1,h2,h3⟩:=r.ob n a _ b c;⟨o,xs,h1,h2,h3⟩
end
def pq:List D->Option (List Key)
 | []=>some []
 | .int i::ds=>(pq ds).map (Sum.inl i :: ·)
 | .str l::ds=>(pq ds).map (Sum.inr (S l) :: ·)
 | _=>none
def rR:D->Option NK
 | .tup [.int i,.tup ds]=>(pq ds).map λa=>(i,a)
 | _=>none
theorem Rps.keysN{K:Frag}{F:Hp}{c:List Addr}:∀{ds:List D}{xs:List V}{ks:List Key},Rps K F c xs ds->pq ds=some ks->xs=ks.map kV
 | [],xs,ks,h,e=>by cases e;exact h.un0
 | .int i::ds,xs,ks,h,e=>by
  obtain⟨x,r,rfl,h1,h2⟩:=h.un;obtain⟨b,a,rfl⟩:=jq.mp (show(pq ds).map (Sum.inl i :: ·)=some ks from e);rw[h1.unI,Rps.keysN h2 a];rfl
 | .str l::ds,xs,ks,h,e=>by
  obtain⟨x,r,rfl,h1,h2⟩:=h.un;obtain⟨b,a,rfl⟩:=jq.mp (show(pq ds).map (Sum.inr (S l) :: ·)=some ks from e);rw[h1.unS,Rps.keysN h2 a];rfl
 | .non::ds,xs,ks,h,e=>by cases e
 | .bl _::ds,xs,ks,h,e=>by cases e
 | .lst _::ds,xs,ks,h,e=>by cases e
 | .tup _::ds,xs,ks,h,e=>by cases e
 | .dic _ _::ds,xs,ks,h,e=>by cases e
 | .ob _::ds,xs,ks,h,e=>by cases e
def J0:List Value->Bool
 | [.int _ _,.ref _]=>true
 | _=>false
def bJ:Frag->Bool
 | []=>true
 |p::r=>(match p.2.data with
  | .seq its _=>!J0 its.toList
  | _=>true)&&bJ r
theorem J1{a:Addr}{o:Obj}{its:Array Value}{n:Nat}:∀{K:Frag},bJ K=true->List.lookup a K=some o->o.data=.seq its n->J0 its.toList=false
 | [],_,h,_=>by cases h
 |p::r,hk,h,hd=>by
  unfold bJ at hk;rw[zr] at hk;rw[List.lookup_cons] at h;split at h
  ·cases h
   have:=hk.1
   rw[hd] at this;simpa using this
  ·exact J1 hk.2 h hd
theorem Rp.nkey{K:Frag}{F:Hp}{J:List Addr}{v:V}{d:D}{k:NK}(B:bJ K=true)(h:Rp K F J v d)(e:rR d=some k):∃b,v=.ref b/\NAt K F k b:=by
 unfold rR at e;split at e
 ·rename_i i R;obtain⟨Q,I,rfl⟩:=jq.mp e;obtain⟨b,O,rfl,h1,h2⟩:=h.unT';obtain⟨x,r,rfl,h3,h4⟩:=h2.un;obtain⟨P,f,rfl,G,E⟩:=h4.un;obtain rfl:=E.un0;obtain⟨c,L,rfl,g,C⟩:=G.unT';have H:=C.keysN I;rw[h3.unI] at h1
  rcases h1 with h1 | ⟨o,a,n,y,_,m,_,l⟩
  ·refine⟨b,rfl,c,h1,?_⟩;rw[H] at g;exact g
  ·exfalso
   have q:=J1 B y m;have l5':aW [.int i,.ref c] a.toList:=l
   generalize a.toList=j at q l5'
   cases l5' with
   | @cons _ u _ j r1 f =>
    cases f with
    | @cons _ u2 _ us2 r3 r4 =>
     cases r4;obtain⟨t,rfl⟩:∃t,u=.int i t:=r1;obtain rfl:u2=Value.ref c:=r3;cases q
 ·cases e
section
variable {X:Cx}{md:List Md}{P:Pt}{R:RR}
def rT:M D:=λ_ O=>.ok (.ob O.length) (O++[.dn []])
theorem J2{b:Pos}:VE X md P (.Dict [] [] b) rT:=YG.imp λσ H Q q p a=>by
 obtain⟨ρ,O,F,c,d,f,r,s,e,k⟩:=q;cases e;refine k _ _ F (c++[p]) (Gr.snoc a) ((r.lay a).snocO (r.unF a) (λz=>r.all z a) ⟨[],cg,rfl,Rps.nil⟩) (Rp.mkO ?_);rw[<-r.len,zK (zc _),Nat.sub_self];rfl
def gP(c a b:M D):MS:=λρ O=>match b ρ O with
 | .ok d O1=>match c ρ O1 with
  | .ok (.ob n) O2=>match a ρ O2 with
   | .ok y O3=>match rR y,O3[n]? with
    |some k,some (.dn kvs)=>if kvs.length<1000000 then .nx ρ (O3.set n (.dn (putN kvs k d))) else .no
    | _,_=>.no
   | _=>.no
  | _=>.no
 | _=>.no
theorem yL{kk:Nat}(hk:bJ X.K=true)(hr:bC kk X.A){o i value:Expr}{h pos':Pos}{W T U:M D}(ho:VE X md P o W)(hi:VE X md P i T)(hv:VE X md P value U)
  (hs:swapsWith value (some (.Subscript o i pos')) h.line X.env=pure false:=by rfl):VS X md P R (.Assign [.Subscript o i pos'] value h) (gP W T U):=
 (YF (n6 hr) ho hi hv hs).imp λD σ H q=>by
  obtain⟨ρ,O,F,as,r,s,k⟩:=q;unfold gP at k;split at k
  ·rename_i d O1 e1;split at k
   ·rename_i n O2 e2;split at k
    ·rename_i y O3 e3;split at k
     ·rename_i t kvs e4 e5;split at k
      ·rename_i hz;refine⟨ρ,O,F,as,_,_,r,s,e1,λv H1 F1 j E r1 hv=>⟨ρ,O1,F1,j,_,_,r1,s.step E,e2,λx H2 F2 J C r2 hx=>⟨ρ,O2,F2,J,_,_,r2,s.step (E.trans C),e3,λu Z G g B m hu=>?_⟩⟩⟩;obtain⟨a,rfl,ha⟩:=Rp.unO hx;have f:=B.at_ n a ha;obtain⟨l,Q,L⟩:=m.dn f e5;obtain⟨b,rfl,hb⟩:=Rp.nkey hk hu e4;have I:=(show Rp X.K F1 j v d from hv).gr (C.trans B)
       have hl:l.length<sizeLine:=by rw[L.len];exact zF hz (by decide)
       have g4:Gr Z G g (upd Z a (.dN X.K (putK l t v))) G g:=Jz (zH f) Q;have Y:=((E.trans C).trans B).trans g4;obtain⟨z1,z2⟩:=L.put t I;exact⟨a,l,t,b,rfl,rfl,Q,hb.mono λc ys hc=>m.fh _ _ hc,hl,k σ _ G g Y.toS (m.mutG f ⟨_,cg,z1,z2⟩) (s.step Y)⟩
      ·exact False.elim k
     ·exact False.elim k
    ·exact False.elim k
   ·exact False.elim k
  ·exact False.elim k
def nsG(n:Nat)(y:D)(O:aq):Res D:=match rR y,O[n]? with
 |some k,some (.nf kvs)=>match valN kvs k with
  |some d=>.ok d O
  |none=>.no
 |some k,some (.dn kvs)=>match valN kvs k with
  |some d=>.ok d O
  |none=>.no
 | _,_=>.no
def dJ(b a:M D):M D:=λρ O=>(b ρ O).bind λx d=>match x with
 | .ob n=>(a ρ d).bind λy c=>nsG n y c
 | _=>.no
theorem rY{kk:Nat}(hk:bJ X.K=true)(hr:bC kk X.A){o i:Expr}{pos:Pos}{mo my:M D}(ho:VE X md P o mo)(hi:VE X md P i my)(hs:xA i:=by intro _ _;rfl):VE X md P (.Subscript o i pos) (dJ mo my):=
 (YD (n6 hr) ho hi hs).imp λσ H Q q=>by
  obtain⟨ρ,O,F,as,d,O',r,s,e,k⟩:=q;obtain⟨x,O1,e1,e⟩:=Res.bind_ok e
  cases x with
  |ob n =>
   obtain⟨y,O2,e2,e⟩:=Res.bind_ok e;unfold nsG at e;split at e
   ·rename_i t kvs e3 e4;split at e
    ·rename_i d' f;cases e;refine⟨ρ,_,F,as,_,_,r,s,e1,λx H1 F1 l C T U=>⟨ρ,_,F1,l,_,_,T,s.step C,e2,λu H2 F2 j B h W=>?_⟩⟩;obtain⟨a,rfl,ha⟩:=Rp.unO U;obtain⟨o,G,J,I⟩:=h.nf (B.at_ n a ha) e4;obtain⟨b,rfl,Z⟩:=Rp.nkey hk W e3
     rcases I.val (k:=t) with⟨g,m⟩ | ⟨d2,L,g,m,E⟩
     ·rw[g] at f;cases f
     ·rw[g] at f;cases f;exact⟨a,L,rfl,⟨G,t,b,.inr ⟨o,J⟩,rfl,Z.mono λc ys Y=>h.fh _ _ Y,m.symm⟩,k _ H2 F2 j (C.trans B) h E⟩
    ·cases e
   ·rename_i t kvs e3 e4;split at e
    ·rename_i d' f;cases e;refine⟨ρ,_,F,as,_,_,r,s,e1,λx H1 F1 l C T U=>⟨ρ,_,F1,l,_,_,T,s.step C,e2,λu H2 F2 j B h W=>?_⟩⟩;obtain⟨a,rfl,ha⟩:=Rp.unO U;obtain⟨G,J,I⟩:=h.dn (B.at_ n a ha) e4;obtain⟨b,rfl,Z⟩:=Rp.nkey hk W e3
     rcases I.val (k:=t) with⟨g,m⟩ | ⟨d2,L,g,m,E⟩
     ·rw[g] at f;cases f
     ·rw[g] at f;cases f;exact⟨a,L,rfl,⟨G,t,b,.inl J,rfl,Z.mono λc ys Y=>h.fh _ _ Y,m.symm⟩,k _ H2 F2 j (C.trans B) h E⟩
    ·cases e
   ·cases e
  | _=>cases e
end
section
variable {K:Frag}{mg:Str->Option Value}{O:aq}{H F:Hp}{as:List Addr}
theorem J3{b:Addr}{xs:List V}(hb:H b=some (.tup xs))(hs:∃O,RlO K mg O H F as):∃a,Gr H F as H a as/\(∀O,RlO K mg O H F as->RlO K mg O H a as)/\a b=some (.tup xs):=by
 cases hF:F b with
 |some u =>
  obtain⟨d,c⟩:=hs
  have:=c.fh b u hF
  rw[hb] at this;cases this;exact⟨F,Gr.refl,λ_ r=>r,hF⟩
 |none=>exact⟨upd F b (.tup xs),Gr.tupF hb hF,λ_ r=>r.frz hb hF (r.noT hb) rfl,cg⟩
end
def J4(p:NK×D):D:=.tup [.int p.1.1,.tup (p.1.2.map km)]
section
variable {X:Cx}{md:List Md}{P:Pt}{R:RR}
def pA(m:M D):M (List D):=λρ O=>(m ρ O).bind λd a=>match d with
 | .ob n=>match a[n]? with
  |some (.dn kvs)=>.ok (kvs.map J4) (a.set n (.nf kvs))
  | _=>.no
 | _=>.no
theorem YL{tg e:Expr}{m:M D}(h:VE X md P e m):VI X md P tg e (pA m):=(YK h).imp λσ H Q q=>by
 obtain⟨ρ,O,F,as,ds,O',r,s,e,k⟩:=q;obtain⟨d,O1,e1,e⟩:=Res.bind_ok e;split at e
 ·rename_i n;split at e
  ·rename_i kvs e2;cases e;refine⟨ρ,_,F,as,_,_,r,s,e1,λv H1 F1 I g1 L hv=>?_⟩;obtain⟨a,rfl,u⟩:=Rp.unO hv;obtain⟨xs,J,j⟩:=L.dn u e2;refine⟨a,xs,rfl,J,λo=>k (yJ X.K a o) (upd H1 a (.frz o (.dN X.K xs))) F1 I (g1.trans (Jz (zH u) J)) (L.mutG u ⟨o,xs,cg,j.1,j.2⟩) ⟨λi d H2 F2 g B l hd=>?_,λH2 F2 g B l=>?_⟩⟩
   ·have hz:=B.kz a o _ cg
    have t:i<kvs.length:=by have:=(zq.mp hd).1;rwa [ze] at this
    have hi':i<xs.length:=by rw[j.len];exact t
    refine⟨⟨xs,hz,hi'⟩,λx H3 y=>?_⟩;obtain⟨rfl,hy⟩:=y;obtain⟨b,p,rfl,hp,hb⟩:=hy xs hz
    have T:p.1=kvs[i].1:=by
     have h1:(xs.map (·.1))[i]?=some p.1:=by rw[zA,hp];rfl
     rw[j.1,zA,zx t] at h1
     injection h1 with h1
     exact h1.symm
    rw[zA,zx t] at hd
    injection hd with hd
    subst hd;obtain⟨c,G,f⟩:=hb;obtain⟨Z,E⟩:=id l;obtain⟨F3,W,C,Y⟩:=J3 G l
    rcases f with f | f
    ·obtain⟨F4,U,f4,e4⟩:=J3 f ⟨Z,C Z E⟩;refine⟨F4,W.trans U,λO r=>f4 O (C O r),b,_,rfl,.inl (U.ff _ _ Y),?_⟩;rw[<-T];exact Rps.cons (show Rp X.K F4 g (.int p.1.1) (.int p.1.1) from rfl) (Rps.cons ⟨c,_,rfl,.inl e4,uJ p.1.2⟩ Rps.nil)
    ·refine⟨F3,W,C,b,_,rfl,.inl Y,?_⟩;rw[<-T];exact Rps.cons (show Rp X.K F3 g (.int p.1.1) (.int p.1.1) from rfl) (Rps.cons ⟨c,_,rfl,.inr f,uJ p.1.2⟩ Rps.nil)
   ·exact⟨xs,B.kz a o _ cg,by rw[ze,j.len];exact zc _⟩
  ·cases e
 ·cases e
end
def pB(i:Nat)(ms:MS):MS:=λρ O=>match ρ[i]? with
 |some (some (.ob n))=>match O[n]? with
  |some (.dn _)=>match ms ρ O with
   | .nx ρ2 O2=>match O2[n]? with
    |some (.nf kvs)=>.nx ρ2 (O2.set n (.dn kvs))
    | _=>.no
   | _=>.no
  | _=>.no
 | _=>.no
section
variable {K:Frag}{mg:Str->Option Value}{md:List Md}{P:Pt}{ρ:aA}{σ:St}{O:aq}{H F H' F':Hp}{as as':List Addr}
theorem GrS.reHN{a:Addr}{h:HO}{xs:List (NK×V)}(g:GrS P H F as H' F' as')(f:a∈as)(d:H a=some (.dN K xs)):GrS P H F as (upd H' a h) F' as' :=
 ⟨g.fz,g.ff,g.nw,λc o p e b hd=>by rw[aQ (λz=>b (by rw[z];exact f))];exact g.fr c o p e b hd,λc e=>by
  by_cases z:c=a
  ·rw[z,cg] at e;cases e
  ·rw[aQ z] at e;exact g.dm c e,λc o u e=>by rw[aQ (λz=>by rw[z,d] at e;cases e)];exact g.kz c o u e⟩
end
section
variable {X:Cx}{md:List Md}{P:Pt}{R:RR}
theorem YM(i:Nat){st:Stmt}{ms:MS}(h:VS X md P R st ms):VS X md P R st (pB i ms):=λpins s σ H D I q=>by
 obtain⟨ρ,O,F,B,r,sl,k⟩:=q;unfold pB at k;split at k
 ·rename_i n U;split at k
  ·rename_i kv0 T;split at k
   ·rename_i m W Q;split at k
    ·rename_i kvs L;obtain⟨a,l⟩:=sl.obAt U;obtain⟨Z,x,_⟩:=r.dn l T;have J:=I.base0N x
     refine thn (h pins s σ H {nx:=λb d=>∃j c,GrS P H F B d j c/\RlO X.K X.mg W d j c/\SlO X.K md P m b d j c,rt:=λ_ _=>False} I ⟨ρ,O,F,B,r,sl,by rw[Q];exact λb d j c g r s=>⟨j,c,g,r,s⟩⟩) λf s' z=>?_
     cases f with
     |next =>
      obtain⟨b,d,Y,j,c,g,y,G⟩:=z;have ha':=g.at_ n a l;have hm':=zH ha';obtain⟨o,E,C,t⟩:=y.nf ha' L;exact⟨b,_,Y.thawN C J,k b _ j c (g.reHN (zH l) x) (y.mutG ha' ⟨E,cg,t.1,t.2⟩) (G.reH hm')⟩
     |brk=>obtain⟨b,d,_,z⟩:=z;exact z.elim
     |cont=>obtain⟨b,d,_,z⟩:=z;exact z.elim
     |ret u=>obtain⟨v,b,d,_,_,z⟩:=z;exact z.elim
    ·exact False.elim k
   ·exact False.elim k
  ·exact False.elim k
 ·exact False.elim k
end
section
variable {X:Cx}{md:List Md}{P:Pt}{R:RR}
theorem YQ(i:Nat){c b:Expr}{x:Str}{p t h:Pos}{j:M Bool}{mb:M D}(U:TsE X md P c j)(hb:OE X md P b mb)(T:md[i]?=some .o:=by rfl)(hN:X.N[i]?=some x:=by rfl)(Q:Vis X.env.scope x:=by first | exact Or.inl rfl | exact Or.inr (Or.inl rfl) | exact Or.inr (Or.inr rfl))
  (hd:(x == ("__debug__":Str))=false:=by decide) (B:(x == ("__classdict__":Str))=false:=by decide):VS X md P (rO X.K) (.Return (some (.IfExp c (.Name x p) b t)) h) (aO (mIf j (aa i) mb)):=(wV (GD U (lM (i:=i) hN Q hd B) hb)).imp λD σ H q=>by
 obtain⟨ρ,O,F,as,r,s,k⟩:=q;unfold aO at k
 cases e:mIf j (aa i) mb ρ O with
 |ok d O' =>
  rw[e] at k;obtain⟨y,O1,n,e⟩:=Res.bind_ok e;refine⟨ρ,_,F,as,_,_,r,s,n,λH1 G g f E=>?_⟩
  cases y with
  |true =>
   rw[if_pos rfl] at e ⊢;obtain⟨m,rfl⟩:=qP e;obtain⟨v,h1,h2⟩:=(s.step f).sl i .o d T m;refine⟨v,h1,k v H1 G g f.toS E ?_⟩
   rcases h2 with h2 | ⟨a,I,ds,n,m,e3,e0,e4,Z,Y⟩
   ·exact .inl h2
   ·exact .inr ⟨a,I,ds,n,m,e3,e0,e4,Z,Y⟩
  |false =>
   rw[if_neg zf] at e ⊢;exact⟨ρ,_,G,g,_,_,E,s.step f,e,λJ H2 F2 C W L u=>k J H2 F2 C (f.trans W).toS L (du _ _ _ _ _ _ _ (λa l p=>s.pd a p l) (du _ _ _ _ _ _ _ (λa l=>f.dm a l) u))⟩
 |ex x O'=>rw[e] at k;exact False.elim k
 |no=>rw[e] at k;exact False.elim k
end
section
variable {K:Frag}{h:Heap}{mg:Str->Option Value}
theorem mkD{x:Str}{st:Stmt}{f:Addr}{g:Value}{d i:Option Addr}{sl:Array (Option Value)}{kV dc pm b ct:Value}(X:K.In h)(G:h.Ns mainGlobals mg)(a:nsIn K mainGlobals x=some (some (.ref f)))(l:K.lookup f=some ⟨g,d,.func (fnOf x x (gY st) (eO st) (aY st) .none kV dc pm i b ct),sl⟩)(c:codeIn K b x=true)(k:keepIn K (.ref f)=true):Def K mg x st:=⟨_,_,mg_of X G a,xE l c k⟩
structure ClsAt(K:Frag)(c:Str)(A:Addr):Prop where
 ns:nsIn K mainGlobals c=some (some (.ref A))
 pg:plainGet K A Str.empty=true
 hd:hasDictIn K A=true
 po:plainOver K A=true
 sa:findIn K (.ref A) "__setattr__" = some (some (.builtin "object.__setattr__"))
 mks:makesIn K A=true
 kc:keepIn K (.ref A)=true
def MethAt(K:Frag)(A:Addr)(m qual:Str)(st:Stmt):Prop:=∃f fd,findIn K (.ref A) m=some (some (.ref f))/\isFn K (.ref f)=true/\keepIn K (.ref f)=true/\Fun K m qual st f fd
theorem mkM{A:Addr}{m qual:Str}{st:Stmt}{f:Addr}{g:Value}{d j:Option Addr}{sl:Array (Option Value)}{kV dc pm b ct:Value}(a:findIn K (.ref A) m=some (some (.ref f)))(i:isFn K (.ref f)=true)(l:K.lookup f=some ⟨g,d,.func (fnOf m qual (gY st) (eO st) (aY st) .none kV dc pm j b ct),sl⟩)(c:codeIn K b qual=true)(k:keepIn K (.ref f)=true):MethAt K A m qual st:=⟨_,_,a,i,k,xE l c k⟩
variable {A:Addr}{c:Str}
theorem ClsAt.cl(z:ClsAt K c A):Cls K A:=⟨z.pg,z.hd,z.po,z.sa⟩
theorem ClsAt.dm(z:ClsAt K c A)(X:K.In h)(G:h.Ns mainGlobals mg){m qual:Str}{st:Stmt}(q:MethAt K A m qual st):jP K mg c m qual st:=by
 obtain⟨f,fd,a,i,k,b⟩:=q;exact⟨_,_,_,mg_of X G z.ns,z.cl,⟨a,i,k⟩,b⟩
theorem ClsAt.dc(z:ClsAt K c A)(X:K.In h)(G:h.Ns mainGlobals mg){qual:Str}{st:Stmt}(q:MethAt K A "__init__" qual st):uE K mg c qual st:=by
 obtain⟨f,fd,a,i,k,b⟩:=q;exact⟨_,_,_,mg_of X G z.ns,⟨z.mks,a,i,z.kc⟩,b⟩
theorem ClsAt.kf(z:ClsAt K c A)(X:K.In h)(G:h.Ns mainGlobals mg){f:Str}(n:findIn K (.ref A) f=some none):KC K mg c f:=⟨_,mg_of X G z.ns,z.cl,n⟩
end
end L2
namespace L2
open PySem PySem.Spec PyProof.Rows
section
variable {X:Cx}
end
def ofO(o:Option D)(O:aq):Res D:=match o with
 |some d=>.ok d O
 |none=>.no
@[simp] theorem iR{d:D}{O:aq}:ofO (some d) O=.ok d O:=rfl
@[simp] theorem aV{α β:Type}{a:α}{O:aq}{f:α->aq->Res β}:(Res.ok a O).bind f=f a O:=rfl
@[simp] theorem QzT{O:aq}:bK O .non=.non:=rfl
@[simp] theorem yM{O:aq}{b:Bool}:bK O (.bl b)=.bl b:=rfl
@[simp] theorem iT{O:aq}{b:Int}:bK O (.int b)=.int b:=rfl
@[simp] theorem pC{O:aq}{b:List Nat}:bK O (.str b)=.str b:=rfl
@[simp] theorem nD{O:aq}{b:List D}:bK O (.lst b)=.lst b:=rfl
@[simp] theorem yN{O:aq}{b:List D}:bK O (.tup b)=.tup b:=rfl
@[simp] theorem QzU{O:aq}{a b:List D}:bK O (.dic a b)=.dic a b:=rfl
@[simp] theorem nF{i:Nat}{ρ:aA}{O:aq}:aa i ρ O=(match ρ[i]? with | some (some d)=>.ok d O | _=>.no):=rfl
@[simp] theorem m_c{d:D}{ρ:aA}{O:aq}:mC d ρ O=.ok d O:=rfl
@[simp] theorem pF{g:D->D->Option D}{a b:M D}{ρ:aA}{O:aq}:ak g a b ρ O=(a ρ O).bind λx d=>(b ρ d).bind λy c=>ofO (g (bK c x) (bK c y)) c:=rfl
def gF(r:Res D):Res D:=match r with
 | .ok d O'=>if jD d=true then .ok d O' else .no
 |r=>r
@[simp] theorem m_g{m:M D}{ρ:aA}{O:aq}:mG m ρ O=gF (m ρ O):=rfl
@[simp] theorem QBv{i:Int}{O:aq}:gF (.ok (.int i) O)=.ok (.int i) O:=rfl
@[simp] theorem QBa{i:List Nat}{O:aq}:gF (.ok (.str i) O)=.ok (.str i) O:=rfl
@[simp] theorem QBL{i:Bool}{O:aq}:gF (.ok (.bl i) O)=.ok (.bl i) O:=rfl
@[simp] theorem QBo{O:aq}:gF (.ok .non O)=.ok .non O:=rfl
@[simp] theorem QBu{l:List D}{O:aq}:gF (.ok (.tup l) O)=.ok (.tup l) O:=rfl
@[simp] theorem QBF{n:Nat}{O:aq}:gF (.ok (.ob n) O)=.ok (.ob n) O:=rfl
def chF(o:Option D)(O:aq)(f:Unit->Res D):Res D:=match o with
 |some (.bl true)=>f ()
 |some (.bl false)=>.ok (.bl false) O
 | _=>.no
@[simp] theorem QB8{b:Bool}{O:aq}{f:Unit->Res D}:chF (some (.bl b)) O f=if b=true then f () else .ok (.bl false) O:=by cases b<;>rfl
@[simp] theorem QA3{g g':D->D->Option D}{a b c:M D}{ρ:aA}{O:aq}:qR g g' a b c ρ O=(a ρ O).bind λx h=>(b ρ h).bind λy d=>chF (g (bK d x) (bK d y)) d λ_=>(c ρ d).bind λz f=>ofO (g' (bK f y) (bK f z)) f:=by
 unfold qR;congr 1
@[simp] theorem YS{m:M D}{ρ:aA}{O:aq}:jE m ρ O=(m ρ O).bind λd a=>.ok (.bl (isNon d)) a:=rfl
@[simp] theorem QBs{m:M D}{ρ:aA}{O:aq}:ir m ρ O=(m ρ O).bind λd a=>.ok (.bl (!isNon d)) a:=rfl
@[simp] theorem QzR:isNon .non=true:=rfl
@[simp] theorem QzV{l:List D}:isNon (.lst l)=false:=rfl
@[simp] theorem QzS{l:List D}:isNon (.tup l)=false:=rfl
@[simp] theorem QzO{l:List Nat}:isNon (.str l)=false:=rfl
@[simp] theorem QzW{l:Int}:isNon (.int l)=false:=rfl
@[simp] theorem QAp{l:Nat}:isNon (.ob l)=false:=rfl
def teF(d:D)(O:aq):Res Bool:=match d with
 | .bl b=>.ok b O
 | _=>.no
@[simp] theorem uR{b:Bool}{O:aq}:teF (.bl b) O=.ok b O:=rfl
@[simp] theorem uT{m:M D}{ρ:aA}{O:aq}:aB m ρ O=(m ρ O).bind teF:=rfl
def ofB(o:Option Bool)(O:aq):Res Bool:=match o with
 |some d=>.ok d O
 |none=>.no
@[simp] theorem yO{d:Bool}{O:aq}:ofB (some d) O=.ok d O:=rfl
@[simp] theorem rZ{m:M D}{ρ:aA}{O:aq}:bW m ρ O=(m ρ O).bind λd a=>ofB (oO (bK a d)) a:=rfl
@[simp] theorem yP{b:Bool}:oO (.bl b)=some b:=rfl
@[simp] theorem QAy{b:List D}:oO (.lst b)=some (!b.isEmpty):=rfl
@[simp] theorem fQ{a b:M Bool}{ρ:aA}{O:aq}:cD a b ρ O=(a ρ O).bind λc d=>if c=true then b ρ d else .ok false d:=rfl
@[simp] theorem iU{a b:M Bool}{ρ:aA}{O:aq}:cB a b ρ O=(a ρ O).bind λc d=>if c=true then .ok true d else b ρ d:=rfl
@[simp] theorem uU{a:M Bool}{ρ:aA}{O:aq}:dw a ρ O=(a ρ O).bind λc b=>.ok (!c) b:=rfl
def anF(d:D)(O:aq)(f:Unit->Res D):Res D:=match d with
 | .bl true=>f ()
 | .bl false=>.ok (.bl false) O
 | _=>.no
def orF(d:D)(O:aq)(f:Unit->Res D):Res D:=match d with
 | .bl true=>.ok (.bl true) O
 | .bl false=>f ()
 | _=>.no
@[simp] theorem QB0{b:Bool}{O:aq}{f:Unit->Res D}:anF (.bl b) O f=if b=true then f () else .ok (.bl false) O:=by cases b<;>rfl
@[simp] theorem QB2{b:Bool}{O:aq}{f:Unit->Res D}:orF (.bl b) O f=if b=true then .ok (.bl true) O else f ():=by cases b<;>rfl
@[simp] theorem YT{a b:M D}{ρ:aA}{O:aq}:iu a b ρ O=(a ρ O).bind λd c=>anF d c λ_=>b ρ c:=by
 unfold iu;congr 1
@[simp] theorem QBS{a b:M D}{ρ:aA}{O:aq}:Ih a b ρ O=(a ρ O).bind λd c=>orF d c λ_=>b ρ c:=by
 unfold Ih;congr 1
def noF(d:D)(O:aq):Res D:=match d with
 | .bl b=>.ok (.bl (!b)) O
 | _=>.no
@[simp] theorem QBT{b:Bool}{O:aq}:noF (.bl b) O=.ok (.bl (!b)) O:=rfl
@[simp] theorem QBp{a:M D}{ρ:aA}{O:aq}:VP a ρ O=(a ρ O).bind noF:=rfl
@[simp] theorem nG{t:M Bool}{a b:M D}{ρ:aA}{O:aq}:mIf t a b ρ O=(t ρ O).bind λc d=>if c=true then a ρ d else b ρ d:=rfl
@[simp] theorem sr{ρ:aA}{O:aq}:au ρ O=.ok [] O:=rfl
@[simp] theorem nH{m:M D}{r:M (List D)}{ρ:aA}{O:aq}:aj m r ρ O=(m ρ O).bind λd b=>(r ρ b).bind λds a=>.ok (d::ds) a:=rfl
@[simp] theorem J5{r:M (List D)}{ρ:aA}{O:aq}:bV r ρ O=(r ρ O).bind λds a=>if ds.length<=1000000 then .ok (.lst ds) a else .no:=rfl
@[simp] theorem J6{r:M (List D)}{ρ:aA}{O:aq}:bT r ρ O=(r ρ O).bind λds a=>if ds.length<=1000000 then .ok (.tup ds) a else .no:=rfl
@[simp] theorem su{c:List D->aq->Res D}{a:M (List D)}{ρ:aA}{O:aq}:aJ c a ρ O=(a ρ O).bind λds b=>c ds b:=rfl
@[simp] theorem J7{g:List D->Option D}{a:M (List D)}{ρ:aA}{O:aq}:bx g a ρ O=(a ρ O).bind λds b=>ofO (g (ds.map (bK b))) b:=rfl
@[simp] theorem QCd{g:D->Option D}{a:M D}{ρ:aA}{O:aq}:mUn g a ρ O=(a ρ O).bind λd b=>ofO (g (bK b d)) b:=rfl
def isF(n:String)(o:Option String)(O:aq):Res D:=match o with
 |some t=>.ok (.bl (fB t n)) O
 |none=>.no
@[simp] theorem YW{n t:String}{O:aq}:isF n (some t) O=.ok (.bl (fB t n)) O:=rfl
@[simp] theorem YX{n:String}{m:M D}{ρ:aA}{O:aq}:gk n m ρ O=(m ρ O).bind λd a=>isF n (tyD (bK a d)) a:=rfl
@[simp] theorem QA0:tyD .non=some "NoneType":=rfl
@[simp] theorem QBn{b:Bool}:tyD (.bl b)=some "bool":=rfl
@[simp] theorem QA6{b:Int}:tyD (.int b)=some "int":=rfl
@[simp] theorem YZ{b:List Nat}:tyD (.str b)=some "str":=rfl
@[simp] theorem QAX{b:List D}:tyD (.lst b)=some "list":=rfl
@[simp] theorem QAT{b:List D}:tyD (.tup b)=some "tuple":=rfl
@[simp] theorem QAY{a b:List D}:tyD (.dic a b)=some "dict":=rfl
@[simp] theorem Y0{ρ:aA}{O:aq}:moN ρ O=.ok none O:=rfl
def osF(d:D)(O:aq):Res (Option Int):=match d with
 | .int i=>.ok (some i) O
 | _=>.no
@[simp] theorem J8{i:Int}{O:aq}:osF (.int i) O=.ok (some i) O:=rfl
@[simp] theorem uV{m:M D}{ρ:aA}{O:aq}:moS m ρ O=(m ρ O).bind osF:=rfl
@[simp] theorem yQ{m:M D}{lo a:M (Option Int)}{ρ:aA}{O:aq}:mSl m lo a ρ O=(m ρ O).bind λd f=>(lo ρ f).bind λl c=>(a ρ c).bind λh b=>ofO (gSl (bK b d) l h) b:=rfl
@[simp] theorem Y4{l:List Nat}{lo a:Option Int}:gSl (.str l) lo a=if l.length<=16777216 then some (.str (dU l lo a)) else none:=rfl
@[simp] theorem J9{l:List D}{lo a:Option Int}:gSl (.lst l) lo a=some (.lst (dU l lo a)):=rfl
@[simp] theorem QA4{l:List D}{lo a:Option Int}:gSl (.tup l) lo a=some (.tup (dU l lo a)):=rfl
def lB(f:Fl)(b:MS):Fl:=match f with
 | .nx ρ' O'=>b ρ' O'
 |r=>r
@[simp] theorem gm{a b:MS}{ρ:aA}{O:aq}:aC a b ρ O=lB (a ρ O) b:=rfl
@[simp] theorem lC{ρ:aA}{O:aq}{b:MS}:lB (.nx ρ O) b=b ρ O:=rfl
@[simp] theorem Y5{d:D}{O:aq}{b:MS}:lB (.rt d O) b=.rt d O:=rfl
@[simp] theorem QAN{ρ:aA}{O:aq}{b:MS}:lB (.bk ρ O) b=.bk ρ O:=rfl
@[simp] theorem QAP{ρ:aA}{O:aq}{b:MS}:lB (.ct ρ O) b=.ct ρ O:=rfl
@[simp] theorem QAZ{b:MS}:lB .no b=.no:=rfl
@[simp] theorem Ka{ρ:aA}{O:aq}:bc ρ O=.nx ρ O:=rfl
def mH(r:Res D):Fl:=match r with
 | .ok d O'=>.rt d O'
 | .ex x O'=>.ex x O'
 | .no=>.no
@[simp] theorem eG{m:M D}{ρ:aA}{O:aq}:aO m ρ O=mH (m ρ O):=rfl
@[simp] theorem Kc{d:D}{O:aq}:mH (.ok d O)=.rt d O:=rfl
def Kd(r:Res D)(ρ:aA):Fl:=match r with
 | .ok _ O'=>.nx ρ O'
 | .ex x O'=>.ex x O'
 | .no=>.no
@[simp] theorem Ke{m:M D}{ρ:aA}{O:aq}:oV m ρ O=Kd (m ρ O) ρ:=rfl
@[simp] theorem Kf{d:D}{O:aq}{ρ:aA}:Kd (.ok d O) ρ=.nx ρ O:=rfl
def ifF(r:Res Bool)(a b:MS)(ρ:aA):Fl:=match r with
 | .ok c O'=>if c=true then a ρ O' else b ρ O'
 | .ex x O'=>.ex x O'
 | .no=>.no
@[simp] theorem nJ{t:M Bool}{a b:MS}{ρ:aA}{O:aq}:aX t a b ρ O=ifF (t ρ O) a b ρ:=rfl
@[simp] theorem nM{c:Bool}{O:aq}{a b:MS}{ρ:aA}:ifF (.ok c O) a b ρ=if c=true then a ρ O else b ρ O:=rfl
def sE(i:Nat)(r:Res D)(ρ:aA):Fl:=match r with
 | .ok d O'=>.nx (ρ.set i (some d)) O'
 | .ex x O'=>.ex x O'
 | .no=>.no
@[simp] theorem sG{i:Nat}{m:M D}{ρ:aA}{O:aq}:aK i m ρ O=sE i (m ρ O) ρ:=rfl
@[simp] theorem sH{i:Nat}{d:D}{O:aq}{ρ:aA}:sE i (.ok d O) ρ=.nx (ρ.set i (some d)) O:=rfl
def Kg(r:Res (List D))(g:MG)(b:MS)(ρ:aA):Fl:=match r with
 | .ok ds O'=>bO g b ds ρ O'
 | .ex x O'=>.ex x O'
 | .no=>.no
@[simp] theorem jR{m:M (List D)}{g:MG}{b:MS}{ρ:aA}{O:aq}:cY m g b ρ O=Kg (m ρ O) g b ρ:=rfl
@[simp] theorem jT{ds:List D}{O:aq}{g:MG}{b:MS}{ρ:aA}:Kg (.ok ds O) g b ρ=bO g b ds ρ O:=rfl
@[simp] theorem mg_n{i:Nat}{d:D}{ρ:aA}:mgN i d ρ=some (ρ.set i (some d)):=rfl
def bA(f:Fl):Res D:=match f with
 | .rt d O'=>.ok d O'
 | .nx _ O'=>.ok .non O'
 | .ex x O'=>.ex x O'
 | _=>.no
@[simp] theorem yR{n:Nat}{b:MS}{ds:List D}{O:aq}:bI n b ds O=bA (b (ds.map some++List.replicate (n - ds.length) none) O):=rfl
@[simp] theorem Kh{d:D}{O:aq}:bA (.rt d O)=.ok d O:=rfl
@[simp] theorem QAO{ρ:aA}{O:aq}:bA (.nx ρ O)=.ok .non O:=rfl
@[simp] theorem Y6{m:M (List D)}{ρ:aA}{O:aq}:lu m ρ O=(m ρ O).bind λds a=>match ds with
 | [.int j]=>if j<=1000000000/\-1000000000<=j then .ok (gK 0 j.toNat) a else .no
 | _=>.no:=rfl
def itF(o:Option (List D))(O:aq):Res (List D):=match o with
 |some a=>.ok a O
 |none=>.no
@[simp] theorem yS{ds:List D}{O:aq}:itF (some ds) O=.ok ds O:=rfl
@[simp] theorem yU{m:M D}{ρ:aA}{O:aq}:cR m ρ O=(m ρ O).bind λd a=>itF (nu d) a:=rfl
@[simp] theorem Kl{ds:List D}:nu (.lst ds)=some ds:=rfl
@[simp] theorem QzP{ds:List D}:nu (.tup ds)=some ds:=rfl
theorem Y7{l:List Nat}(h:ascii l=true):nu (.str l)=some (cZ l):=by
 show(if ascii l=true then some (cZ l) else none)=_;rw[if_pos h]
@[simp] theorem Y8{m:M (List D)}{own:Nat}{cap:List Nat}{g:MG}{t:M Bool}{e:M D}{ρ:aA}{O:aq}:eZ m own cap g t e ρ O=(m ρ O).bind λds b=>if ds.length<=1000000 then(dh g t e ds (lV own cap ρ) b []).bind λys a=>.ok (.lst ys) a else .no:=rfl
@[simp] theorem QBi{i j:Int}:aM (.int i) (.int j)=some (.int (i+j)):=rfl
@[simp] theorem Y9{a b:List Nat}:aM (.str a) (.str b)=if a.length+b.length<=1000000 then some (.str (a++b)) else none:=rfl
@[simp] theorem Za{a b:List D}:aM (.lst a) (.lst b)=if a.length+b.length<=1000000 then some (.lst (a++b)) else none:=rfl
@[simp] theorem QAF{i j:Int}:m7 (.int i) (.int j)=some (.int (i - j)):=rfl
@[simp] theorem Zb{i j:Int}:bL (.int i) (.int j)=if 0<j then some (.int (i % j)) else none:=by
 unfold bL gI
 by_cases h:0<j<;>simp[h]
@[simp] theorem Zc{i j:Int}:gj (.int i) (.int j)=if 0<j/\j<1073741824 then some (.int (i / j)) else none:=by
 unfold gj gI
 by_cases h:0<j/\j<1073741824<;>simp[h]
theorem yV{i j:Int}(h:(-(2 ^ 64)<i/\i<2 ^ 64)\/(-(2 ^ 64)<j/\j<2 ^ 64)):fc (.int i) (.int j)=some (.int (i * j)):=by
 unfold fc;dsimp only;rw[if_pos];rw[Bool.or_eq_true];unfold oZ;rw[zr,zr,decide_eq_true_eq,decide_eq_true_eq,decide_eq_true_eq,decide_eq_true_eq];exact h
@[simp] theorem QBQ{i j:Int}:gLt (.int i) (.int j)=some (.bl (decide (i<j))):=rfl
@[simp] theorem QBC{i j:Int}:gGt (.int i) (.int j)=some (.bl (decide (j<i))):=rfl
@[simp] theorem QBW{i j:Int}:gGe (.int i) (.int j)=some (.bl (decide (j<=i))):=rfl
@[simp] theorem QBN{i j:Int}:gLe (.int i) (.int j)=some (.bl (decide (i<=j))):=rfl
theorem Km(a b:Nat):(([a]:List Nat) < [b])↔a<b:=by
 constructor
 ·intro h
  rcases List.cons_lt_cons_iff.mp h with h | ⟨_,h⟩
  ·exact h
  ·exact absurd h (List.not_lt_nil _)
 ·intro h;exact List.cons_lt_cons_iff.mpr (.inl h)
@[simp] theorem QBB{a b:Nat}:gLe (.str [a]) (.str [b])=some (.bl (decide (a<=b))):=by
 show some (D.bl (!decide (([b]:List Nat) < [a])))=_
 have:decide (([b]:List Nat) < [a])=decide (b<a):=by
  by_cases h:b<a
  ·rw[zl h,zl ((Km _ _).mpr h)]
  ·rw[zd h,zd (λz=>h ((Km _ _).mp z))]
 rw[this]
 by_cases h:b<a
 ·rw[zl h,zd (by omega)];rfl
 ·rw[zd h,zl (by omega)];rfl
@[simp] theorem QB7{i j:Int}:gEq (.int i) (.int j)=some (.bl (decide (i=j))):=rfl
@[simp] theorem yW{i j:List Nat}:gEq (.str i) (.str j)=some (.bl (decide (i=j))):=rfl
@[simp] theorem QBY{i j:Bool}:gEq (.bl i) (.bl j)=some (.bl (decide (i=j))):=rfl
@[simp] theorem Zd{i j:List D}:gEq (.lst i) (.lst j)=if(okE (.lst i)&&okE (.lst j))=true then some (.bl (jK (.lst i) (.lst j))) else none:=rfl
@[simp] theorem Ze{i j:Int}:gNe (.int i) (.int j)=some (.bl (!decide (i=j))):=rfl
@[simp] theorem QBR{i j:List Nat}:gNe (.str i) (.str j)=some (.bl (!decide (i=j))):=rfl
@[simp] theorem QCa{i j:Bool}:gNe (.bl i) (.bl j)=some (.bl (!decide (i=j))):=rfl
@[simp] theorem Zf{i j:List D}:gNe (.lst i) (.lst j)=if(okE (.lst i)&&okE (.lst j))=true then some (.bl (!jK (.lst i) (.lst j))) else none:=rfl
@[simp] theorem Ko{n:Bool}{c:Nat}{l:List Nat}:gIn n (.str [c]) (.str l)=some (.bl (n ^^ decide (c∈l))):=rfl
theorem uW{ds:List D}{i:Int}:gIx (.lst ds) (.int i)=atI ds i:=rfl
theorem Kp{l:List Nat}{i:Int}:gIx (.str l) (.int i)=if l.length<=1000000 then(atI l i).map (λc=>.str [c]) else none:=rfl
@[simp] theorem Zg{l:List Nat}:bY [.str l]=if l.length<=1000000 then some (.int l.length) else none:=rfl
@[simp] theorem QBc{l:List D}:bY [.lst l]=some (.int l.length):=rfl
@[simp] theorem QBw{l:List D}:bY [.tup l]=some (.int l.length):=rfl
@[simp] theorem QBm{i j:Int}:Wn [.int i,.int j]=some (.int (if j>i then j else i)):=rfl
@[simp] theorem QBe{i j:Int}:Wo [.int i,.int j]=some (.int (if j<i then j else i)):=rfl
@[simp] theorem QBh{i:Int}:jL [.int i]=some (.int i):=rfl
@[simp] theorem QBx{b:Bool}:jL [.bl b]=some (.int (if b then 1 else 0)):=rfl
@[simp] theorem QBr:jJ (.int 10) (.int 18)=some (.int 1000000000000000000):=by rfl
@[simp] theorem QA7:jJ (.int 10) (.int 9)=some (.int 1000000000):=by rfl
@[simp] theorem uX{α:Type}{xs:List α}{j:Nat}:atI xs (j:Int)=xs[j]?:=by
 unfold atI ixN;rw[if_pos (by omega)]
 by_cases h:j<xs.length
 ·rw[if_pos (by omega)];simp
 ·rw[if_neg (by omega),jg (by omega)];rfl
theorem Kq{α:Type}{xs:List α}{i:Int}(h0:0<=i)(h1:i<xs.length):∃x,atI xs i=some x/\x∈xs:=by
 obtain⟨j,rfl⟩:=Int.eq_ofNat_of_zero_le h0
 have a:j<xs.length:=by omega
 exact⟨xs[j],by show atI xs (j:Int)=_;rw[uX,zx a],jp a⟩
section
variable {c:Prop}[Decidable c]
@[simp] theorem QAr{a b:Fl}:bA (if c then a else b)=if c then bA a else bA b:=by split<;>rfl
@[simp] theorem QAb{a b:Res D}:mH (if c then a else b)=if c then mH a else mH b:=by split<;>rfl
@[simp] theorem QzZ{a b:Fl}{r:MS}:lB (if c then a else b) r=if c then lB a r else lB b r:=by split<;>rfl
@[simp] theorem QAD{α β:Type}{a b:Res α}{f:α->aq->Res β}:(if c then a else b).bind f=if c then a.bind f else b.bind f:=by split<;>rfl
@[simp] theorem QAV{a b:Res Bool}{x y:MS}{ρ:aA}:ifF (if c then a else b) x y ρ=if c then ifF a x y ρ else ifF b x y ρ:=by split<;>rfl
@[simp] theorem QAs{a b:Res D}{i:Nat}{ρ:aA}:sE i (if c then a else b) ρ=if c then sE i a ρ else sE i b ρ:=by split<;>rfl
@[simp] theorem QA2{a b:Option D}{O:aq}:ofO (if c then a else b) O=if c then ofO a O else ofO b O:=by split<;>rfl
end
@[simp] theorem Zh:fB "str" "str" = true:=by decide
@[simp] theorem QBd:fB "int" "str" = false:=by decide
@[simp] theorem QBy:fB "bool" "str" = false:=by decide
@[simp] theorem QA9:fB "list" "str" = false:=by decide
@[simp] theorem QBj:fB "tuple" "str" = false:=by decide
@[simp] theorem QBA:fB "dict" "str" = false:=by decide
@[simp] theorem QBg:fB "NoneType" "str" = false:=by decide
@[simp] theorem QBt:fB "int" "int" = true:=by decide
@[simp] theorem QBz:fB "int" "bool" = false:=by decide
@[simp] theorem QA5:fB "bool" "bool" = true:=by decide
@[simp] theorem QAR:fB "list" "list" = true:=by decide
@[simp] theorem QAW:fB "tuple" "tuple" = true:=by decide
@[simp] theorem QA1:fB "NoneType" "list" = false:=by decide
theorem pG{g:MG}{b:MS}(j:Nat->aA->aq->Prop):∀(ds:List D) (k:Nat) (ρ:aA) (O:aq),j k ρ O ->
  (∀i d ρ O,ds[i]?=some d->j (k+i) ρ O->∃ρ1,g d ρ=some ρ1/\∃c l,(b ρ1 O=.nx c l\/b ρ1 O=.ct c l)/\j (k+i+1) c l)->∃a f,bO g b ds ρ O=.nx a f/\j (k+ds.length) a f
 | [],k,ρ,O,h,_=>⟨ρ,O,rfl,h⟩
 |d::ds,k,ρ,O,h,hs=>by
  obtain⟨ρ1,t,c,l,m,h2⟩:=hs 0 d ρ O rfl h
  obtain⟨a,f,r,h3⟩:=pG j ds (k+1) c l h2 λi u a f q n=>by
   have:=hs (i+1) u a f (by simpa using q) (by rw[show k+(i+1)=k+1+i by omega];exact n)
   rw[show k+(i+1)+1=k+1+i+1 by omega] at this;exact this
  refine⟨a,f,?_,by rw[zo,show k+(ds.length+1)=k+1+ds.length by omega];exact h3⟩;unfold bO;rw[t];dsimp only
  rcases m with m | m<;>rw[m]<;>exact r
theorem Kr{g:MG}{t:M Bool}{m:M D}(a:aA->Prop)(f:D->D):∀(ds:List D) (ρ:aA) (O:aq) (acc:List D),a ρ->(∀d∈ds,∀ρ,a ρ->∃ρ1,g d ρ=some ρ1/\a ρ1/\t ρ1 O=.ok true O/\m ρ1 O=.ok (f d) O)->dh g t m ds ρ O acc=.ok (acc++ds.map f) O
 | [],ρ,O,acc,_,_=>by simp[dh]
 |d::ds,ρ,O,acc,h,hs=>by
  obtain⟨ρ1,j,h1,i,c⟩:=hs d zg ρ h;unfold dh;rw[j];dsimp only;rw[i];dsimp only;rw[c];dsimp only;rw[Kr a f ds ρ1 O _ h1 λk b=>hs k (zn _ b)];simp
theorem Ks{g:MG}{t:M Bool}{m:M D}(a:aA->Prop)(p:D->Bool):∀(ds:List D) (ρ:aA) (O:aq) (acc:List D),a ρ->(∀d∈ds,∀ρ,a ρ->∃ρ1,g d ρ=some ρ1/\a ρ1/\t ρ1 O=.ok (p d) O/\m ρ1 O=.ok d O)->dh g t m ds ρ O acc=.ok (acc++ds.filter p) O
 | [],ρ,O,acc,_,_=>by simp[dh]
 |d::ds,ρ,O,acc,h,hs=>by
  obtain⟨ρ1,j,h1,i,f⟩:=hs d zg ρ h
  have c:=λacc=>Ks a p ds ρ1 O acc h1 λk b=>hs k (zn _ b)
  unfold dh;rw[j];dsimp only;rw[i]
  cases q:p d with
  |true =>
   dsimp only;rw[f];dsimp only;rw[c,List.filter_cons,q];simp
  |false =>
   dsimp only;rw[c,List.filter_cons,q];simp
@[simp] theorem QBf{ρ:aA}{O:aq}:rH ρ O=.ok [] O:=rfl
@[simp] theorem QAU{a b:M D}{r:M (List (D×D))}{ρ:aA}{O:aq}:mj a b r ρ O=(a ρ O).bind λx f=>(b ρ f).bind λy d=>(r ρ d).bind λps c=>.ok ((x,y)::ps) c:=rfl
def diF(o:Option (List Key))(kv:List (D×D))(O:aq):Res D:=match o with
 |some a=>if a.Nodup/\kv.length<=15 then .ok (.dic (kv.map (·.1)) (kv.map (·.2))) O else .no
 |none=>.no
@[simp] theorem QAn{ks:List Key}{kv:List (D×D)}{O:aq}:diF (some ks) kv O=if ks.Nodup/\kv.length<=15 then .ok (.dic (kv.map (·.1)) (kv.map (·.2))) O else .no:=rfl
@[simp] theorem QBk{m:M (List (D×D))}{ρ:aA}{O:aq}:rJ m ρ O=(m ρ O).bind λkv a=>diF (keysOf kv) kv a:=rfl
@[simp] theorem QAS{i:Int}:keyOf (.int i)=some (.inl i):=rfl
@[simp] theorem QAQ{i:List Nat}:keyOf (.str i)=some (.inr (S i)):=rfl
@[simp] theorem Qzv:keysOf []=some []:=rfl
@[simp] theorem QyI{a b:D}{r:List (D×D)}:keysOf ((a,b)::r)=(keyOf a).bind λk=>(keysOf r).map (k :: ·):=rfl
def joF(o:Option (List (List Nat)))(O:aq):Res D:=match o with
 |some ls=>if(ls.map List.length).sum<=1000000 then .ok (.str ls.flatten) O else .no
 |none=>.no
@[simp] theorem Qz8{ls:List (List Nat)}{O:aq}:joF (some ls) O=if(ls.map List.length).sum<=1000000 then .ok (.str ls.flatten) O else .no:=rfl
def jdF(d:D)(O:aq):Res D:=match d with
 | .lst ds=>joF (jM ds) O
 | _=>.no
@[simp] theorem QBJ{ds:List D}{O:aq}:jdF (.lst ds) O=joF (jM ds) O:=rfl
@[simp] theorem QBl{m:M D}{ρ:aA}{O:aq}:rE m ρ O=(m ρ O).bind λd a=>jdF (bK a d) a:=rfl
@[simp] theorem QBZ{own:Nat}{cap:List Nat}{ρ:aA}:lV own cap ρ=List.replicate own none++cap.map λj=>(ρ[j]?).join:=rfl
@[simp] theorem QzQ{g:MG}{t:M Bool}{m:M D}{ρ:aA}{O:aq}{acc:List D}:dh g t m [] ρ O acc=.ok acc O:=rfl
theorem Ku:∀ds:List D,lX ds=ds.map toP
 | []=>rfl
 |d::ds=>by rw[lX,Ku ds];rfl
theorem Kv:∀{ds:List D},(∀d∈ds,gJ d=true)->m8 ds=true
 | [],_=>rfl
 |d::ds,h=>by rw[m8,h d zg,Kv λx a=>h x (zn _ a)];rfl
theorem Zi{n:Nat}(b:n<60){ds:List D}(h:∀d∈ds,gJ d=true/\(toP d).canLay0=true/\(toP d).depth<=n):okE (.lst ds)=true:=by
 unfold okE;rw[zr];refine⟨?_,?_⟩
 ·rw[gJ];exact Kv λd hd=>(h d hd).1
 ·rw[toP,Ku]
  refine Vu b λd hd=>?_
  obtain⟨x,a,rfl⟩:=zz.mp hd;exact(h x a).2
theorem pH{l:List Nat}(h:∀c∈l,c<1114112):(PyData.str (S l)).canLay0=true:=by
 show PyData.strOk (S l)=true;unfold PyData.strOk S;simp;exact h
theorem yX{d:D}(h:okE d=true):jK d d=true:=by
 unfold okE at h;rw[zr] at h
 have:=h.2
 unfold okD at this;rw[zr] at this;exact SeqAt.eqv_refl _ this.1
def it(f:Int->Int):Nat->Int->Int
 | 0,x=>x
 |n+1,x=>f (it f n x)
def mix(n k:Int):Int:=if n>1000000000000000000 then it (λr=>r / 1000000000) k.toNat n % 1000000000
 else
  let m:=it (λm=>(m * 48271+104729) % 2147483629) (k+2).toNat (n % 2147483647+7919)
  m * m % 998244353 / 11
theorem Kw(j:Nat)(x:Int)(h0:0<=x)(h1:x<2147491566):0<=it (λm=>(m * 48271+104729) % 2147483629) j x/\it (λm=>(m * 48271+104729) % 2147483629) j x<2147491566:=by
 induction j with
 |zero=>exact⟨h0,h1⟩
 |succ j ih =>
  refine⟨zS _ (by decide),?_⟩
  have:=zT (it (λm=>(m * 48271+104729) % 2147483629) j x * 48271+104729) (show(0:Int)<2147483629 by decide)
  show(it (λm=>(m * 48271+104729) % 2147483629) j x * 48271+104729) % 2147483629<_;omega
def yZ:MS:=(aC (aX (aB (ak gGt (aa 0) (ak jJ (mC (.int 10)) (mC (.int 18))))) (aC (aK 2 (mG (aa 0)))
  (aC (cY (lu (aj (aa 1) au)) (mgN 3) (aK 2 (ak gj (aa 2) (ak jJ (mC (.int 10)) (mC (.int 9))))))
  (aO (ak bL (aa 2) (ak jJ (mC (.int 10)) (mC (.int 9))))))) bc)
  (aC (aK 4 (ak aM (ak bL (aa 0) (mC (.int 2147483647))) (mC (.int 7919))))
  (aC (cY (lu (aj (ak aM (aa 1) (mC (.int 2))) au)) (mgN 3) (aK 4 (ak bL (ak aM (ak fc (aa 4) (mC (.int 48271))) (mC (.int 104729))) (mC (.int 2147483629)))))
  (aO (ak gj (ak bL (ak fc (aa 4) (aa 4)) (mC (.int 998244353))) (mC (.int 11)))))))
theorem z7(lo:Int)(n:Nat):(gK lo n).length=n:=by simp[gK]
theorem Zj(n k:Int)(h0:0<=k)(h1:k<=1000000)(O:aq):bI 5 yZ [.int n,.int k] O=.ok (.int (mix n k)) O:=by
 unfold mix
 by_cases t:n>1000000000000000000
 ·obtain⟨q,c,e,rfl,a,rfl⟩:=pG (g:=mgN 3) (b:=aK 2 (ak gj (aa 2) (ak jJ (mC (.int 10)) (mC (.int 9)))))
   (λi ρ c=>c=O/\∃a,ρ=[some (.int n),some (.int k),some (.int (it (λr=>r / 1000000000) i n)),a,none]) (gK 0 k.toNat) 0 [some (.int n),some (.int k),some (.int n),none,none] O ⟨rfl,none,rfl⟩ (by
    rintro i d ρ c hi ⟨rfl,a,rfl⟩;refine⟨_,rfl,?_⟩;simp;rw[show it (λr=>r / 1000000000) (i+1) n=it (λr=>r / 1000000000) i n / 1000000000 from rfl]
    exact⟨_,_,⟨rfl,rfl⟩,rfl,_,rfl⟩)
  rw[z7,zZ] at e
  have l:k<=1000000000/\-1000000000<=k:=by omega
  simp[yZ,t,l,e]
 ·have h:0<=n % 2147483647+7919:=by have:=zS n (show(2147483647:Int)≠0 by decide);omega
  have f:n % 2147483647+7919<2147491566:=by have:=zT n (show(0:Int)<2147483647 by decide);omega
  obtain⟨q,c,e,rfl,a,rfl⟩:=pG (g:=mgN 3) (b:=aK 4 (ak bL (ak aM (ak fc (aa 4) (mC (.int 48271))) (mC (.int 104729))) (mC (.int 2147483629))))
   (λi ρ c=>c=O/\∃a,ρ=[some (.int n),some (.int k),none,a,some (.int (it (λm=>(m * 48271+104729) % 2147483629) i (n % 2147483647+7919)))]) (gK 0 (k+2).toNat) 0 [some (.int n),some (.int k),none,none,some (.int (n % 2147483647+7919))] O ⟨rfl,none,rfl⟩ (by
    rintro i d ρ c hi ⟨rfl,a,rfl⟩;refine⟨_,rfl,?_⟩;obtain⟨y,x⟩:=Kw i _ h f
    have:=yV (i:=it (λm=>(m * 48271+104729) % 2147483629) i (n % 2147483647+7919)) (j:=48271) (.inr ⟨by decide,by decide⟩)
    simp[this]
    rw[show it (λm=>(m * 48271+104729) % 2147483629) (i+1) (n % 2147483647+7919)=(it (λm=>(m * 48271+104729) % 2147483629) i (n % 2147483647+7919) * 48271+104729) % 2147483629 from rfl]
    exact⟨_,_,⟨rfl,rfl⟩,rfl,_,rfl⟩)
  rw[z7,zZ] at e
  have l:k+2<=1000000000/\-1000000000<=k+2:=by omega
  obtain⟨y,x⟩:=Kw (k+2).toNat _ h f;have u:=yV (i:=it (λm=>(m * 48271+104729) % 2147483629) (k+2).toNat (n % 2147483647+7919)) (j:=it (λm=>(m * 48271+104729) % 2147483629) (k+2).toNat (n % 2147483647+7919)) (.inl ⟨by omega,by omega⟩);simp[yZ,t,l,e,u]
def pI(a:List Str)(f:Str)(d:D)(O:aq):Res D:=match d with
 | .ob n=>match O[n]? with
  |some (.ins c fs)=>if c∈a then match fs.lookup f with
   |some y=>.ok y O
   |none=>.no else .no
  | _=>.no
 | _=>.no
@[simp] theorem Zk{a:List Str}{f:Str}{m:M D}{ρ:aA}{O:aq}:dz a f m ρ O=(m ρ O).bind (pI a f):=rfl
def puF(a:List Str)(f:Str)(d:D)(ρ:aA)(r:Res D):Fl:=match r with
 | .ok (.ob n) O2=>match O2[n]? with
  |some (.ins c fs)=>if c∈a/\fs.length<900 then .nx ρ (O2.set n (.ins c (putD f d fs))) else .no
  | _=>.no
 | _=>.no
def sfF(b:List Str)(f:Str)(a:M D)(r:Res D)(ρ:aA):Fl:=match r with
 | .ok d O1=>puF b f d ρ (a ρ O1)
 | .ex x O'=>.ex x O'
 | .no=>.no
@[simp] theorem Zm{c:List Str}{f:Str}{b a:M D}{ρ:aA}{O:aq}:fM c f b a ρ O=sfF c f b (a ρ O) ρ:=by
 unfold fM sfF puF
 cases a ρ O<;>rfl
@[simp] theorem Zn{b:List Str}{f:Str}{a:M D}{d:D}{O:aq}{ρ:aA}:sfF b f a (.ok d O) ρ=puF b f d ρ (a ρ O):=rfl
def meF(c m:Str)(g:List D->aq->Res D)(b:aq->Res (List D))(d:D)(a:aq):Res D:=match d with
 | .ob n=>match a[n]? with
  |some (.ins c' fs)=>if c'=c/\(fs.lookup m).isNone=true then(b a).bind λf h=>g (.ob n::f) h else .no
  | _=>.no
 | _=>.no
@[simp] theorem z8{c m:Str}{d:List D->aq->Res D}{a:M D}{b:M (List D)}{ρ:aA}{O:aq}:bQ c m d a b ρ O=(a ρ O).bind (meF c m d (b ρ)):=rfl
def mkF(n:Nat)(r:Res D):Res D:=match r with
 | .ok .non O2=>.ok (.ob n) O2
 | .ok _ _=>.no
 | .ex x O2=>.ex x O2
 | .no=>.no
@[simp] theorem Zo{c:Str}{d:List D->aq->Res D}{b:M (List D)}{ρ:aA}{O:aq}:jQ c d b ρ O=(b ρ O).bind λds a=>mkF a.length (d (.ob a.length::ds) (a++[.ins c []])):=by
 unfold jQ;congr 1
@[simp] theorem Zq{n:Nat}{O:aq}:mkF n (.ok .non O)=.ok (.ob n) O:=rfl
def apF(i:Nat)(r:Res D)(ρ:aA):Fl:=match r with
 | .ok d O'=>match ρ[i]? with
  |some (some (.lst ds))=>if ds.length<1000000 then .nx (ρ.set i (some (.lst (ds++[d])))) O' else .no
  | _=>.no
 | .ex x O'=>.ex x O'
 | .no=>.no
@[simp] theorem Ky{i:Nat}{m:M D}{ρ:aA}{O:aq}:cO i m ρ O=apF i (m ρ O) ρ:=rfl
theorem Kz{i:Nat}{d:D}{ds:List D}{ρ:aA}{O:aq}(h:ρ[i]?=some (some (.lst ds)))(a:ds.length<1000000):apF i (.ok d O) ρ=.nx (ρ.set i (some (.lst (ds++[d])))) O:=by
 unfold apF;dsimp only;rw[h];dsimp only;rw[if_pos a]
def exF(i:Nat)(r:Res D)(ρ:aA):Fl:=match r with
 | .ok d O'=>match ρ[i]?,bK O' d with
  |some (some (.lst ds)),.lst es=>if ds.length+es.length<=1000000 then .nx (ρ.set i (some (.lst (ds++es)))) O' else .no
  | _,_=>.no
 | .ex x O'=>.ex x O'
 | .no=>.no
@[simp] theorem Zr{i:Nat}{m:M D}{ρ:aA}{O:aq}:lz i m ρ O=exF i (m ρ O) ρ:=rfl
theorem Zt{i:Nat}{es ds:List D}{ρ:aA}{O:aq}(h:ρ[i]?=some (some (.lst ds)))(a:ds.length+es.length<=1000000):exF i (.ok (.lst es) O) ρ=.nx (ρ.set i (some (.lst (ds++es)))) O:=by
 unfold exF;dsimp only[bK];rw[h];dsimp only;rw[if_pos a]
def enF(d:D)(a:aq):Res (List D):=match d with
 | .lst ds=>.ok (dR 0 ds) a
 | .str l=>if ascii l=true then .ok (dR 0 (cZ l)) a else .no
 | _=>.no
@[simp] theorem Zu{m:M D}{ρ:aA}{O:aq}:uF m ρ O=(m ρ O).bind enF:=rfl
theorem KD{l:List Nat}{O:aq}(h:ascii l=true):enF (.str l) O=.ok (dR 0 (cZ l)) O:=by
 show(if ascii l=true then _ else _)=_;rw[if_pos h]
def asF(r:Res D)(g:MG)(ρ:aA):Fl:=match r with
 | .ok d O'=>match g d ρ with
  |some a=>.nx a O'
  |none=>.no
 | .ex x O'=>.ex x O'
 | .no=>.no
@[simp] theorem QBq{m:M D}{g:MG}{ρ:aA}{O:aq}:V2 m g ρ O=asF (m ρ O) g ρ:=rfl
@[simp] theorem QCf{i j:Nat}{a b:D}{ρ:aA}:gG 2 (cX (mgN i) (cX (mgN j) iw)) (.tup [a,b]) ρ=some ((ρ.set i (some a)).set j (some b)):=rfl
def stF(a b:D)(O:aq):Res D:=match a,b with
 | .str l,.str n=>.ok (.bl (decide (l.take n.length=n))) O
 | _,_=>.no
@[simp] theorem QzX{a b:M D}{ρ:aA}{O:aq}:uC a b ρ O=(a ρ O).bind λx d=>(b ρ d).bind λy c=>stF x y c:=rfl
@[simp] theorem QBP{l n:List Nat}{O:aq}:stF (.str l) (.str n) O=.ok (.bl (decide (l.take n.length=n))) O:=rfl
theorem KH{t:M Bool}{b:MS}(d:Nat->aA->aq->Prop):∀(n:Nat) (k:Nat) (ρ:aA) (O:aq),k<n->d k ρ O ->
  (∀k ρ O,d (k+1) ρ O->t ρ O=.ok true O/\∃j a f,j<=k/\b ρ O=.nx a f/\d j a f)->(∀ρ O,d 0 ρ O->t ρ O=.ok false O)->∃c g,eU t b n ρ O=.nx c g/\d 0 c g
 | 0,k,ρ,O,hk,_,_,_=>absurd hk (Nat.not_lt_zero _)
 |n+1,0,ρ,O,_,h,_,h0=>by
  refine⟨ρ,O,?_,h⟩;unfold eU;rw[h0 ρ O h]
 |n+1,k+1,ρ,O,hk,h,hs,h0=>by
  obtain⟨m,j,a,f,q,l,h2⟩:=hs k ρ O h;obtain⟨c,g,i,h3⟩:=KH d n j a f (by omega) h2 hs h0;refine⟨c,g,?_,h3⟩;unfold eU;rw[m];dsimp only;rw[l];exact i
theorem sI{α:Type}{g:MG}{t:M Bool}{m:M D}(a:aA->Prop)(f h:α->D):∀(xs:List α) (ρ:aA) (O:aq) (acc:List D),a ρ->(∀x∈xs,∀ρ,a ρ->∃ρ1,g (f x) ρ=some ρ1/\a ρ1/\t ρ1 O=.ok true O/\m ρ1 O=.ok (h x) O)->dh g t m (xs.map f) ρ O acc=.ok (acc++xs.map h) O
 | [],ρ,O,acc,_,_=>by simp[dh]
 |x::xs,ρ,O,acc,hp,hs=>by
  obtain⟨ρ1,i,h1,d,c⟩:=hs x zg ρ hp;rw[zh];unfold dh;rw[i];dsimp only;rw[d];dsimp only;rw[c];dsimp only;rw[sI a f h xs ρ1 O _ h1 λj b=>hs j (zn _ b)];simp
def fC:List Nat:=[101,110,100]
def fD:List Nat:=[97,110,101,119]
def iC:List Nat:=[112,108,97,105,110]
def bF:List Nat:=[115,105,103,110]
def dM:List Nat:=[105,110,107]
def dX:List Nat:=[103,114,111,117,110,100]
def item(p:Int)(k v:List Nat):D:=.tup [.int p,.str k,.str v]
def col(c:Nat):Bool:=decide (c∈[97,98,99,100,101,102,103,104,46])
theorem mJ{c:Nat}(h:col c=true):c≠91/\c≠93/\c≠47/\c≠10/\c≠9:=by
 have:c∈[97,98,99,100,101,102,103,104,46]:=zV h
 have q:∀c∈[97,98,99,100,101,102,103,104,46],c≠91/\c≠93/\c≠47/\c≠10/\c≠9:=by decide
 exact q c this
def gQ(x:Nat):List Nat->List Nat×List Nat×Nat
 | []=>(bF,[91],0)
 |e::_=>if e=93 then(dX,[x],3) else(bF,[91],0)
def fK:List Nat->List Nat×List Nat×Nat
 | []=>(bF,[91],0)
 |x::t=>if col x=true then gQ x t else(bF,[91],0)
def fU(x:Nat):List Nat->List Nat×List Nat×Nat
 | []=>(bF,[91],0)
 |e::_=>if e=93 then(dM,[x],2) else(bF,[91],0)
def cL:List Nat->List Nat×List Nat×Nat
 | []=>(bF,[91],0)
 |d::t=>if d=93 then(iC,[],1) else if d=91 then(bF,[91],1) else if col d=true then fU d t else if d=47 then fK t else(bF,[91],0)
def one(c:Nat)(t:List Nat):List Nat×List Nat×Nat :=
 if c=10 then(fC,[],0) else if c=9 then(fD,[],0) else if c=91 then cL t else(bF,[c],0)
def items(p:Int):List Nat->List D
 | []=>[]
 |c::t=>item p (one c t).1 (one c t).2.1::items (p+((one c t).2.2+1:Nat)) (t.drop (one c t).2.2)
termination_by l=>l.length
decreasing_by
 simp only[List.length_drop,zo];omega
theorem lD(p:Int):items p []=[]:=by rw[items]
theorem sJ(p:Int)(c:Nat)(t:List Nat):items p (c::t)=item p (one c t).1 (one c t).2.1::items (p+((one c t).2.2+1:Nat)) (t.drop (one c t).2.2):=by rw[items]
def own(p:Int)(c:Nat):D:=if c=10 then item p fC [] else if c=9 then item p fD [] else item p bF [c]
def owns:Int->List Nat->List D
 | _,[]=>[]
 |p,c::l=>own p c::owns (p+1) l
theorem fG{p:Int}{c:Nat}{t:List Nat}(h:c≠91):items p (c::t)=own p c::items (p+1) t:=by
 rw[sJ];unfold one own
 by_cases h1:c=10
 ·simp[h1]
 ·by_cases h2:c=9
  ·simp[h1,h2]
  ·simp[h1,h2,h]
theorem iV{p:Int}{t:List Nat}(h:cL t=(bF,[91],0)):items p (91::t)=own p 91::items (p+1) t:=by
 rw[sJ]
 have:one 91 t=(bF,[91],0):=h
 rw[this];rfl
theorem uY{p:Int}{t:List Nat}{k v:List Nat}{n:Nat}(h:cL t=(k,v,n)):items p (91::t)=item p k v::items (p+(n+1:Nat)) (t.drop n):=by
 rw[sJ]
 have:one 91 t=(k,v,n):=h
 rw[this]
theorem KJ:∀(n:Nat) (t:List Nat) (p:Int),t.length<=n->(items p t).length<=t.length
 | 0,t,p,h=>by
  cases t with
  |nil=>rw[lD];exact zc _
  |cons c t=>simp at h
 |n+1,t,p,h=>by
  cases t with
  |nil=>rw[lD];exact zc _
  |cons c t =>
   rw[sJ];simp only[zo] at h ⊢
   have:=KJ n (t.drop (one c t).2.2) (p+((one c t).2.2+1:Nat)) (by rw[List.length_drop];omega)
   rw[List.length_drop] at this;omega
def dD:List Nat->Bool
 | [a]=>decide (a=91)
 | [a,b]=>decide (a=91)&&(decide (b=47) || col b)
 | [a,b,c]=>decide (a=91)&&(decide (b=47)&&col c)
 | _=>false
def markB:List Nat->Option (List Nat×List Nat)
 | [a,b]=>if a=91/\b=93 then some (iC,[]) else if a=91/\b=91 then some (bF,[91]) else none
 | [a,b,c]=>if a=91/\col b=true/\c=93 then some (dM,[b]) else none
 | [a,b,c,d]=>if a=91/\b=47/\col c=true/\d=93 then some (dX,[c]) else none
 | _=>none
def tk(h:List Nat)(c:Nat)(p:Int):List D×List Nat :=
 if dD (h++[c])=true then([],h++[c]) else match markB (h++[c]) with
 |some (k,v)=>([item p k v],[])
 |none=>if c=91 then(owns p h,[91]) else(owns p (h++[c]),[])
inductive cz:List Nat->Prop where
 | h0:cz []
 | h1:cz [91]
 | h2:cz [91,47]
 | h3 (x:Nat) (h:col x=true):cz [91,x]
 | h4 (x:Nat) (h:col x=true):cz [91,47,x]
theorem cz.len{h:List Nat}(H:cz h):h.length<=3:=by cases H<;>simp
theorem z9:col 91=false:=by decide
theorem KQ:col 93=false:=by decide
theorem iW:col 47=false:=by decide
theorem Aa{h:List Nat}(H:cz h)(c:Nat)(p:Int)(rest:List Nat):
  cz (tk h c p).2/\items p (h++c::rest)=(tk h c p).1++items (p+h.length+1 - (tk h c p).2.length) ((tk h c p).2++rest):=by
 cases H with
 |h0 =>
  by_cases h1:c=91
  ·subst h1;refine⟨cz.h1,?_⟩;simp[tk,dD]
  ·have:tk [] c p=([own p c],[]):=by simp[tk,dD,markB,h1,owns]
   rw[this];refine⟨cz.h0,?_⟩;simp[fG h1]
 |h1 =>
  by_cases h2:c=93
  ·subst h2
   have:tk [91] 93 p=([item p iC []],[]):=by simp[tk,dD,markB,KQ]
   rw[this];refine⟨cz.h0,?_⟩;show items p (91::93::rest)=_;rw[uY (k:=iC) (v:=[]) (n:=1) rfl];simp[Int.add_assoc]
  ·by_cases h1:c=91
   ·subst h1
    have:tk [91] 91 p=([item p bF [91]],[]):=by simp[tk,dD,markB,z9]
    rw[this];refine⟨cz.h0,?_⟩;show items p (91::91::rest)=_;rw[uY (k:=bF) (v:=[91]) (n:=1) rfl];simp[Int.add_assoc]
   ·by_cases h3:c=47
    ·subst h3
     have:tk [91] 47 p=([],[91,47]):=by simp[tk,dD]
     rw[this];exact⟨cz.h2,by simp;congr 1;omega⟩
    ·by_cases h4:col c=true
     ·have:tk [91] c p=([],[91,c]):=by simp[tk,dD,h4]
      rw[this];exact⟨cz.h3 c h4,by simp;congr 1;omega⟩
     ·have:tk [91] c p=([own p 91,own (p+1) c],[]):=by simp[tk,dD,markB,h1,h2,h3,h4,owns]
      rw[this];refine⟨cz.h0,?_⟩;show items p (91::c::rest)=_;rw[iV (by simp[cL,h1,h2,h3,h4]),fG h1];simp
 |h2 =>
  by_cases h4:col c=true
  ·have:tk [91,47] c p=([],[91,47,c]):=by simp[tk,dD,h4]
   rw[this];exact⟨cz.h4 c h4,by simp;congr 1;omega⟩
  ·by_cases h1:c=91
   ·subst h1
    have:tk [91,47] 91 p=([own p 91,own (p+1) 47],[91]):=by simp[tk,dD,markB,iW,z9,owns]
    rw[this];refine⟨cz.h1,?_⟩;show items p (91::47::91::rest)=_;rw[iV (by simp[cL,fK,iW,z9]),fG (by decide)];simp;congr 1;omega
   ·have:tk [91,47] c p=([own p 91,own (p+1) 47,own (p+1+1) c],[]):=by simp[tk,dD,markB,h1,h4,iW,owns]
    rw[this];refine⟨cz.h0,?_⟩;show items p (91::47::c::rest)=_;rw[iV (by simp[cL,fK,iW,h4]),fG (by decide),fG h1];simp;congr 1;omega
 |h3 x hx =>
  obtain⟨a,b,d,g,f⟩:=mJ hx
  by_cases h2:c=93
  ·subst h2
   have:tk [91,x] 93 p=([item p dM [x]],[]):=by simp[tk,dD,markB,KQ,hx]
   rw[this];refine⟨cz.h0,?_⟩;show items p (91::x::93::rest)=_;rw[uY (k:=dM) (v:=[x]) (n:=2) (by simp[cL,fU,a,b,hx])];simp;congr 1;omega
  ·by_cases h1:c=91
   ·subst h1
    have:tk [91,x] 91 p=([own p 91,own (p+1) x],[91]):=by simp[tk,dD,markB,d,owns]
    rw[this];refine⟨cz.h1,?_⟩;show items p (91::x::91::rest)=_;rw[iV (by simp[cL,fU,a,b,hx]),fG a];simp;congr 1;omega
   ·have:tk [91,x] c p=([own p 91,own (p+1) x,own (p+1+1) c],[]):=by simp[tk,dD,markB,h1,h2,d,owns]
    rw[this];refine⟨cz.h0,?_⟩;show items p (91::x::c::rest)=_;rw[iV (by simp[cL,fU,a,b,hx,h2]),fG a,fG h1];simp;congr 1;omega
 |h4 x hx =>
  obtain⟨a,b,d,g,f⟩:=mJ hx
  by_cases h2:c=93
  ·subst h2
   have:tk [91,47,x] 93 p=([item p dX [x]],[]):=by simp[tk,dD,markB,hx]
   rw[this];refine⟨cz.h0,?_⟩;show items p (91::47::x::93::rest)=_;rw[uY (k:=dX) (v:=[x]) (n:=3) (by simp[cL,fK,gQ,iW,hx])];simp;congr 1;omega
  ·by_cases h1:c=91
   ·subst h1
    have:tk [91,47,x] 91 p=([own p 91,own (p+1) 47,own (p+1+1) x],[91]):=by simp[tk,dD,markB,owns]
    rw[this];refine⟨cz.h1,?_⟩;show items p (91::47::x::91::rest)=_;rw[iV (by simp[cL,fK,gQ,iW,hx]),fG (by decide),fG a];simp;congr 1;omega
   ·have:tk [91,47,x] c p=([own p 91,own (p+1) 47,own (p+1+1) x,own (p+1+1+1) c],[]):=by simp[tk,dD,markB,h1,h2,owns]
    rw[this];refine⟨cz.h0,?_⟩;show items p (91::47::x::c::rest)=_;rw[iV (by simp[cL,fK,gQ,iW,hx,h2]),fG (by decide),fG a,fG h1];simp;congr 1;omega
theorem Zv{h:List Nat}(H:cz h)(p:Int):items p h=owns p h:=by
 cases H with
 |h0=>rw[lD];rfl
 |h1=>rw[iV rfl,lD];rfl
 |h2=>rw[iV rfl,fG (by decide),lD];rfl
 |h3 x hx =>
  obtain⟨a,b,f,d,c⟩:=mJ hx;rw[iV (by simp[cL,fU,a,b,hx]),fG a,lD];rfl
 |h4 x hx =>
  obtain⟨a,b,f,d,c⟩:=mJ hx;rw[iV (by simp[cL,fK,gQ,iW,hx]),fG (by decide),fG a,lD];rfl
def cU:List Nat->Int->List Nat->List D×List Nat
 |h,_,[]=>([],h)
 |h,p,c::t=>((tk h c (p - h.length)).1++(cU (tk h c (p - h.length)).2 (p+1) t).1,(cU (tk h c (p - h.length)).2 (p+1) t).2)
theorem KR:∀(t:List Nat) {h:List Nat} (_:cz h) (p:Int) (rest:List Nat),cz (cU h p t).2/\items (p - h.length) (h++(t++rest))=(cU h p t).1++items (p+t.length - (cU h p t).2.length) ((cU h p t).2++rest)
 | [],h,H,p,rest=>⟨H,by simp[cU]⟩
 |c::t,h,H,p,rest=>by
  obtain⟨a,b⟩:=Aa H c (p - h.length) (t++rest);obtain⟨a2,f⟩:=KR t a (p+1) rest;refine⟨a2,?_⟩;show items (p - h.length) (h++c::(t++rest))=_;rw[b]
  have e:p - (h.length:Int)+h.length+1 - ((tk h c (p - h.length)).2.length:Int)=p+1 - ((tk h c (p - h.length)).2.length:Int):=by omega
  rw[e,f];show _=((tk h c (p - h.length)).1++(cU (tk h c (p - h.length)).2 (p+1) t).1)++items (p+((c::t).length:Nat) - ((cU (tk h c (p - h.length)).2 (p+1) t).2.length:Int)) ((cU (tk h c (p - h.length)).2 (p+1) t).2++rest);rw[zB]
  have d:p+1+(t.length:Int)=p+((c::t).length:Nat):=by simp;omega
  rw[d]
theorem Zw(t:List Nat):cz (cU [] 0 t).2/\items 0 t=(cU [] 0 t).1++owns (t.length - (cU [] 0 t).2.length) (cU [] 0 t).2:=by
 obtain⟨a,b⟩:=KR t cz.h0 0 [];refine⟨a,?_⟩;simp at b;rw[b,Zv a]
@[simp] theorem Zx{l:List D}:kZ [.lst l]=some (.lst l):=rfl
def fzF(f:Fl):Fl:=match f with
 | .rt d O'=>.rt d O'
 | _=>.no
@[simp] theorem QB3{m:MS}{ρ:aA}{O:aq}:rN m ρ O=fzF (m ρ O):=rfl
@[simp] theorem QBb{d:D}{O:aq}:fzF (.rt d O)=.rt d O:=rfl
def ziF(d e:D)(O:aq):Res (List D):=match d,e with
 | .lst ds,.lst es=>.ok (fJ ds es) O
 | _,_=>.no
@[simp] theorem QBO{a mb:M D}{ρ:aA}{O:aq}:rM a mb ρ O=(a ρ O).bind λd c=>(mb ρ c).bind λe b=>ziF d e b:=by
 unfold rM;congr 1
@[simp] theorem QBE{ds es:List D}{O:aq}:ziF (.lst ds) (.lst es) O=.ok (fJ ds es) O:=rfl
end L2
namespace L2
open PySem
section
variable {ρ ρ':aA}{O O' O1 O2:aq}{d:D}{x:Xc}{a b m:MS}{r:M D}{t:M Bool}{ma:M (List D)}{c:List D->aq->Res D}{ds:List D}
theorem dY(h:a ρ O=.nx ρ' O'):aC a b ρ O=b ρ' O':=by rw[gm,h,lC]
theorem sO(h:a ρ O=.rt d O'):aC a b ρ O=.rt d O':=by rw[gm,h,Y5]
theorem KY{g:MG}(h:ma ρ O=.ok ds O'):cY ma g b ρ O=bO g b ds ρ O':=by rw[jR,h,jT]
end
end L2
namespace K34
open PySem L2
seal VE SE OE WE TsE TwE AE VS VSs VG VGs VI VIc VO VIf DPE
def top(i:Nat):Stmt:=PySem.Challenge.pw_outweave_k34_shaded_and_back.main.body.getD i (.Pass ⟨0,0,0,0⟩)
local macro_rules | `(tactic| trivial) => `(tactic| exact ⟨rfl, rfl, rfl, by decide +kernel, rfl, by decide +kernel, by decide +kernel⟩)
section
variable {Pr:Program}{w:World}{K:Frag}{mg:Str->Option Value}{base:Heap}
abbrev Ab:Stmt:=top 10
theorem Zy:bH ["thing"] ["thing"] (aY Ab):=by trivial
def Ac:MS :=
  (aO (iu (gk "str" (aa 0)) (iu (ak gEq (bx bY (aj (aa 0) au)) (mC (.int 1))) (qR gLe gLe (mC (.str [32])) (aa 0) (mC (.str [125]))))))
def pJ:List D->aq->Res D:=bI 1 Ac
abbrev KZ(Pr:Program)(w:World)(K:Frag)(mg:Str->Option Value)(base:Heap):Prop:=Can Pr w K mg base "is_sign" ["thing"] 1 (vSp K mg [.s] (rV K) pJ)
theorem Zz(g:Def K mg "is_sign" Ab)
  (B:b7 mg)
  (NK:bJ K=true)
  (d:∃u,mg "FIRST_SIGN" = some u/\RelV (.str (S [32])) u)
  (c:∃u,mg "LAST_SIGN" = some u/\RelV (.str (S [125])) u):
  KZ Pr w K mg base:=by
 refine cJ (k:=0) (b:=Ac) g Zy (λ_ _ _ _ _ _=>bh λ_=>b8 rfl) [.s] [] cA (λ_ _ _ _=>Rp.non) (body:=λf h A outer s H E a P=>?_);refine aN ?_;refine bG ?_;refine kJ ?_ ?_;refine bz (o7 "str" (hb:=uw) B.isinstance_ B.str_ (aG 0));refine kJ ?_ ?_;refine bz ?_;refine ig (bw a) ?_ (ao aF) (aZ _);refine aR ?_;refine dG (ms:=[.s]) (hv:=dI) dH B.len_ ?_;refine aH (aG 0) aD;refine oU ?_;refine bz ?_;refine VH IV IV ?_ (aG 0) ?_;refine ao ?_;refine kI d (λ_ _ _=>Rp.str);refine ao ?_;refine kI c (λ_ _ _=>Rp.str)
abbrev Ag:Stmt:=top 11
theorem ZC:bH ["thing"] ["thing"] (aY Ag):=by trivial
def Ah:MS :=
  (aO (iu (gk "str" (aa 0)) (iu (ak gEq (bx bY (aj (aa 0) au)) (mC (.int 1))) (ak (gIn false) (aa 0) (mC (.str [97,98,99,100,101,102,103,104,46]))))))
def nO:List D->aq->Res D:=bI 1 Ah
abbrev Ai(Pr:Program)(w:World)(K:Frag)(mg:Str->Option Value)(base:Heap):Prop:=Can Pr w K mg base "is_colour" ["thing"] 1 (vSp K mg [.s] (rV K) nO)
theorem ZD(d:Def K mg "is_colour" Ag)
  (B:b7 mg)
  (NK:bJ K=true)
  (c:∃u,mg "COLOURS" = some u/\RelV (.str (S [97,98,99,100,101,102,103,104,46])) u):
  Ai Pr w K mg base:=by
 refine cJ (k:=0) (b:=Ah) d ZC (λ_ _ _ _ _ _=>bh λ_=>b8 rfl) [.s] [] cA (λ_ _ _ _=>Rp.non) (body:=λf g A outer s H E a P=>?_);refine aN ?_;refine bG ?_;refine kJ ?_ ?_;refine bz (o7 "str" (hb:=uw) B.isinstance_ B.str_ (aG 0));refine kJ ?_ ?_;refine bz ?_;refine ig (bw a) ?_ (ao aF) (aZ _);refine aR ?_;refine dG (ms:=[.s]) (hv:=dI) dH B.len_ ?_;refine aH (aG 0) aD;refine oU ?_;refine bz ?_;refine ig Jc (aG 0) ?_ (by with_unfolding_all rfl);refine ao ?_;refine kI c (λ_ _ _=>Rp.str)
abbrev Al:Stmt:=top 12
theorem Am:bH ["text","place","sign"] ["text"] (aY Al):=by trivial
def An:MS :=
  (aC (aX (dw (bW (gk "str" (aa 0)))) qT bc)
  (cY (uF (aa 0)) (gG 2 (cX (mgN 1) (cX (mgN 2) iw))) (aX (dw (cB (bW (aJ pJ (aj (aa 2) au))) (cB (aB (ak gEq (aa 2) (mC (.str [10])))) (aB (ak gEq (aa 2) (mC (.str [9]))))))) qT bc)))
def uZ:List D->aq->Res D:=bI 3 An
abbrev K8(Pr:Program)(w:World)(K:Frag)(mg:Str->Option Value)(base:Heap):Prop:=Can Pr w K mg base "checked" ["text"] 2 (vSp K mg [.s] (rV K) uZ)
theorem ZF(h:Def K mg "checked" Al)
  (B:b7 mg)
  (NK:bJ K=true)
  (d:∃u,mg "ANEW_SIGN" = some u/\RelV (.str (S [9])) u)
  (c:∃u,mg "ROW_END" = some u/\RelV (.str (S [10])) u)
  (g:KZ Pr w K mg base):
  K8 Pr w K mg base:=by
 refine cJ (k:=1) (b:=An) h Am (λ_ _ _ _ _ _=>bh λ_=>b8 rfl) [.s] [.v,.v] cA (λ_ _ _ _=>Rp.non) (body:=λf j A outer s H E a P=>?_);refine aL ?_ ?_;refine bN ?_ (aN Ii) bZ;refine jF ?_;refine eQ ?_;refine aR (o7 "str" (hb:=uw) B.isinstance_ B.str_ (aG 0));refine aN ?_;refine gH rfl (Js B.enumerate_ (o8 0)) ?_ ?_;refine qW 2 rfl ?_;refine iy (dg (i:=1) Am.nd rfl (.inl rfl)) ?_;refine iy (dg (i:=2) Am.nd rfl (.inl rfl)) qU;refine aN ?_;refine bN ?_ (aN Ii) bZ;refine jF ?_;refine eY ?_;refine gD ?_ ?_;refine eQ ?_;refine ao ?_;refine bM g (a.mono (by decide)) ?_
 refine aH (ao (az 2)) aD;refine gD ?_ ?_;refine bj (bw a) (ao (az 2)) ?_ (aZ _);refine ao ?_;refine kI c (λ_ _ _=>Rp.str);refine iJ ?_;refine bj (bw a) (ao (az 2)) ?_ (aZ _);refine ao ?_;refine kI d (λ_ _ _=>Rp.str)
abbrev Ar:Stmt:=top 14
theorem ZG:bH ["sign","ink"] ["sign","ink"] (aY Ar):=by trivial
def u0:MS :=
  (aO (mIf (aB (ak gEq (aa 0) (mC (.str [32])))) (mC (.str [46])) (mG (aa 1))))
def nP:List D->aq->Res D:=bI 2 u0
abbrev K9(Pr:Program)(w:World)(K:Frag)(mg:Str->Option Value)(base:Heap):Prop:=Can Pr w K mg base "shown_ink" ["sign","ink"] 1 (vSp K mg [.s,.s] (rV K) nP)
theorem ZJ(c:Def K mg "shown_ink" Ar)
  (B:b7 mg)
  (NK:bJ K=true):
  K9 Pr w K mg base:=by
 refine cJ (k:=0) (b:=u0) c ZG (λ_ _ _ _ _ _=>bh λ_=>bh λ_=>b8 rfl) [.s,.s] [] cA (λ_ _ _ _=>Rp.non) (body:=λf d A outer s H E a P=>?_);refine aN ?_;refine bG ?_;refine kO ?_ (aP [46]) (cP (aG 1));refine bj (bw a) (aG 0) (ao (aP [32])) (aZ _)
abbrev Aw:Stmt:=top 16
theorem ZK:bH ["text"] ["text"] (aY Aw):=by trivial
def pK:MS :=
  (aC (aX (aB (ak gEq (aa 0) (mC (.str [91,93])))) (aO (bT (aj (mC (.str [112,108,97,105,110])) (aj (mC (.str [])) au)))) bc)
  (aC (aX (aB (ak gEq (aa 0) (mC (.str [91,91])))) (aO (bT (aj (mC (.str [115,105,103,110])) (aj (mC (.str [91])) au)))) bc)
  (aC (aX (cD (aB (ak gEq (bx bY (aj (aa 0) au)) (mC (.int 3)))) (cD (aB (ak gEq (ak gIx (aa 0) (mC (.int 0))) (mC (.str [91])))) (cD (bW (aJ nO (aj (ak gIx (aa 0) (mC (.int 1))) au))) (aB (ak gEq (ak gIx (aa 0) (mC (.int 2))) (mC (.str [93]))))))) (aO (bT (aj (mC (.str [105,110,107])) (aj (ak gIx (aa 0) (mC (.int 1))) au)))) bc)
  (aC (aX (cD (aB (ak gEq (bx bY (aj (aa 0) au)) (mC (.int 4)))) (cD (bW (uC (mG (aa 0)) (mC (.str [91,47])))) (cD (bW (aJ nO (aj (ak gIx (aa 0) (mC (.int 2))) au))) (aB (ak gEq (ak gIx (aa 0) (mC (.int 3))) (mC (.str [93]))))))) (aO (bT (aj (mC (.str [103,114,111,117,110,100])) (aj (ak gIx (aa 0) (mC (.int 2))) au)))) bc)
  (aO (mC .non))))))
def nQ:List D->aq->Res D:=bI 1 pK
abbrev La(Pr:Program)(w:World)(K:Frag)(mg:Str->Option Value)(base:Heap):Prop:=Can Pr w K mg base "mark_of" ["text"] 2 (vSp K mg [.s] (rV K) nQ)
theorem ZL(d:Def K mg "mark_of" Aw)
  (B:b7 mg)
  (NK:bJ K=true)
  (c:Ai Pr w K mg base):
  La Pr w K mg base:=by
 refine cJ (k:=1) (b:=pK) d ZK (λ_ _ _ _ _ _=>bh λ_=>b8 rfl) [.s] [] cA (λ_ _ _ _=>Rp.non) (body:=λf g A outer s H E a P=>?_);refine aL ?_ ?_;refine bN ?_ ?_ bZ;refine bj (bw a) (aG 0) (ao (aP [91,93])) (aZ _);refine aN ?_;refine bG ?_;refine cW 2 ?_;refine aU (aP [112,108,97,105,110]) ?_;refine aU (aP []) aD;refine aL ?_ ?_;refine bN ?_ ?_ bZ;refine bj (bw a) (aG 0) (ao (aP [91,91])) (aZ _);refine aN ?_;refine bG ?_;refine cW 2 ?_;refine aU (aP [115,105,103,110]) ?_;refine aU (aP [91]) aD;refine aL ?_ ?_;refine bN ?_ ?_ bZ;refine eY ?_
 refine gw ?_ ?_;refine bj (bw a) ?_ (ao aF) (aZ _);refine aR ?_;refine dG (ms:=[.s]) (hv:=dI) dH B.len_ ?_;refine aH (aG 0) aD;refine gw ?_ ?_;refine bj (bw a) ?_ (ao (aP [91])) (aZ _);refine ao ?_;refine bu (aG 0) (ao aF);refine gw ?_ ?_;refine eQ ?_;refine ao ?_;refine bM c (a.mono (by decide)) ?_;refine aH ?_ aD;refine ao ?_;refine bu (aG 0) (ao aF);refine oR ?_;refine bj (bw a) ?_ (ao (aP [93])) (aZ _);refine ao ?_;refine bu (aG 0) (ao aF);refine aN ?_;refine bG ?_;refine cW 2 ?_;refine aU (aP [105,110,107]) ?_;refine aU ?_ aD;refine bu (aG 0) (ao aF)
 refine aL ?_ ?_;refine bN ?_ ?_ bZ;refine eY ?_;refine gw ?_ ?_;refine bj (bw a) ?_ (ao aF) (aZ _);refine aR ?_;refine dG (ms:=[.s]) (hv:=dI) dH B.len_ ?_;refine aH (aG 0) aD;refine gw ?_ ?_;refine eQ ?_;refine aR ?_;refine Jk (cP (aG 0)) (aP [91,47]);refine gw ?_ ?_;refine eQ ?_;refine ao ?_;refine bM c (a.mono (by decide)) ?_;refine aH ?_ aD;refine ao ?_;refine bu (aG 0) (ao aF);refine oR ?_;refine bj (bw a) ?_ (ao (aP [93])) (aZ _);refine ao ?_;refine bu (aG 0) (ao aF);refine aN ?_;refine bG ?_;refine cW 2 ?_;refine aU (aP [103,114,111,117,110,100]) ?_
 refine aU ?_ aD;refine bu (aG 0) (ao aF);refine aN (bG lU)
abbrev Az:Stmt:=top 17
theorem ZM:bH ["text"] ["text"] (aY Az):=by trivial
def pL:MS :=
  (aC (aX (cB (aB (ak gEq (aa 0) (mC (.str [91])))) (aB (ak gEq (aa 0) (mC (.str [91,47]))))) (aO (mC (.bl true))) bc)
  (aC (aX (aB (ak gEq (bx bY (aj (aa 0) au)) (mC (.int 2)))) (aO (iu (ak gEq (ak gIx (aa 0) (mC (.int 0))) (mC (.str [91]))) (aJ nO (aj (ak gIx (aa 0) (mC (.int 1))) au)))) bc)
  (aO (iu (ak gEq (bx bY (aj (aa 0) au)) (mC (.int 3))) (iu (uC (mG (aa 0)) (mC (.str [91,47]))) (aJ nO (aj (ak gIx (aa 0) (mC (.int 2))) au)))))))
def nR:List D->aq->Res D:=bI 1 pL
abbrev Lb(Pr:Program)(w:World)(K:Frag)(mg:Str->Option Value)(base:Heap):Prop:=Can Pr w K mg base "may_become_mark" ["text"] 2 (vSp K mg [.s] (rV K) nR)
theorem ZP(d:Def K mg "may_become_mark" Az)
  (B:b7 mg)
  (NK:bJ K=true)
  (c:Ai Pr w K mg base):
  Lb Pr w K mg base:=by
 refine cJ (k:=1) (b:=pL) d ZM (λ_ _ _ _ _ _=>bh λ_=>b8 rfl) [.s] [] cA (λ_ _ _ _=>Rp.non) (body:=λf g A outer s H E a P=>?_);refine aL ?_ ?_;refine bN ?_ ?_ bZ;refine eY ?_;refine gD ?_ ?_;refine bj (bw a) (aG 0) (ao (aP [91])) (aZ _);refine iJ ?_;refine bj (bw a) (aG 0) (ao (aP [91,47])) (aZ _);refine aN (bG gZ);refine aL ?_ ?_;refine bN ?_ ?_ bZ;refine bj (bw a) ?_ (ao aF) (aZ _);refine aR ?_;refine dG (ms:=[.s]) (hv:=dI) dH B.len_ ?_;refine aH (aG 0) aD;refine aN ?_;refine bG ?_;refine kJ ?_ ?_;refine bz ?_;refine ig (bw a) ?_ (ao (aP [91])) (aZ _)
 refine ao ?_;refine bu (aG 0) (ao aF);refine oU ?_;refine bM c (a.mono (by decide)) ?_;refine aH ?_ aD;refine ao ?_;refine bu (aG 0) (ao aF);refine aN ?_;refine bG ?_;refine kJ ?_ ?_;refine bz ?_;refine ig (bw a) ?_ (ao aF) (aZ _);refine aR ?_;refine dG (ms:=[.s]) (hv:=dI) dH B.len_ ?_;refine aH (aG 0) aD;refine kJ ?_ ?_;refine bz ?_;refine Jk (cP (aG 0)) (aP [91,47]);refine oU ?_;refine bM c (a.mono (by decide)) ?_;refine aH ?_ aD;refine ao ?_;refine bu (aG 0) (ao aF)
abbrev Bb:Stmt:=top 18
theorem ZQ:bH ["place","sign"] ["place","sign"] (aY Bb):=by trivial
def Bc:MS :=
  (aC (aX (aB (ak gEq (aa 1) (mC (.str [10])))) (aO (bT (aj (mG (aa 0)) (aj (mC (.str [101,110,100])) (aj (mC (.str [])) au))))) bc)
  (aC (aX (aB (ak gEq (aa 1) (mC (.str [9])))) (aO (bT (aj (mG (aa 0)) (aj (mC (.str [97,110,101,119])) (aj (mC (.str [])) au))))) bc)
  (aO (bT (aj (mG (aa 0)) (aj (mC (.str [115,105,103,110])) (aj (mG (aa 1)) au)))))))
def sS:List D->aq->Res D:=bI 2 Bc
abbrev Ld(Pr:Program)(w:World)(K:Frag)(mg:Str->Option Value)(base:Heap):Prop:=Can Pr w K mg base "own_item" ["place","sign"] 1 (vSp K mg [.s,.s] (rV K) sS)
theorem ZR(g:Def K mg "own_item" Bb)
  (B:b7 mg)
  (NK:bJ K=true)
  (d:∃u,mg "ANEW_SIGN" = some u/\RelV (.str (S [9])) u)
  (c:∃u,mg "ROW_END" = some u/\RelV (.str (S [10])) u):
  Ld Pr w K mg base:=by
 refine cJ (k:=0) (b:=Bc) g ZQ (λ_ _ _ _ _ _=>bh λ_=>bh λ_=>b8 rfl) [.s,.s] [] cA (λ_ _ _ _=>Rp.non) (body:=λf h A outer s H E a P=>?_);refine aL ?_ ?_;refine bN ?_ ?_ bZ;refine bj (bw a) (aG 1) ?_ (aZ _);refine ao ?_;refine kI c (λ_ _ _=>Rp.str);refine aN ?_;refine bG ?_;refine cW 3 ?_;refine aU (cP (aG 0)) ?_;refine aU (aP [101,110,100]) ?_;refine aU (aP []) aD;refine aL ?_ ?_;refine bN ?_ ?_ bZ;refine bj (bw a) (aG 1) ?_ (aZ _);refine ao ?_;refine kI d (λ_ _ _=>Rp.str);refine aN ?_;refine bG ?_;refine cW 3 ?_;refine aU (cP (aG 0)) ?_
 refine aU (aP [97,110,101,119]) ?_;refine aU (aP []) aD;refine aN ?_;refine bG ?_;refine cW 3 ?_;refine aU (cP (aG 0)) ?_;refine aU (aP [115,105,103,110]) ?_;refine aU (cP (aG 1)) aD
abbrev u6:Stmt:=top 19
theorem ZV:bH ["place","signs"] ["place","signs"] (aY u6):=by trivial
def Be:MS :=
  (aO (eZ (uF (aa 1)) 2 [0] (gG 2 (cX (mgN 0) (cX (mgN 1) iw))) iz (aJ sS (aj (ak aM (aa 2) (aa 0)) (aj (aa 1) au)))))
def pM:List D->aq->Res D:=bI 2 Be
abbrev Bf(Pr:Program)(w:World)(K:Frag)(mg:Str->Option Value)(base:Heap):Prop:=Can Pr w K mg base "own_items" ["place","signs"] 2 (vSp K mg [.s,.s] (rO K) pM)
theorem ZW(d:Def K mg "own_items" u6)
  (B:b7 mg)
  (NK:bJ K=true)
  (c:Ld Pr w K mg base):
  Bf Pr w K mg base:=by
 refine cJ (k:=1) (b:=Be) d ZV (λ_ _ _ _ _ _=>bh λ_=>bh λ_=>b8 rfl) [.s,.s] [] du (λ_ _ _ _=>.inl ⟨rfl,Rp.non⟩) (body:=λf g A outer s H E a P=>?_);refine aN ?_;refine gh ?_;refine oX (aY u6) ["place","signs"] ["k","sign"] [0] rfl ?_ (λ_ _ _ _ P=>?_) (λ_ _ _ _ P=>?_) (λ_ _ _ _ P=>?_);refine ur (Js B.enumerate_ (o8 1));refine qW 2 rfl ?_;refine iy (dg (i:=0) (show(cu ["place","signs"] ["k","sign"] [0]).Nodup by decide +kernel) rfl (.inl rfl)) ?_;refine iy (dg (i:=1) (show(cu ["place","signs"] ["k","sign"] [0]).Nodup by decide +kernel) rfl (.inl rfl)) qU
 exact qX
 refine bM c (a.mono (by decide)) ?_;refine aH ?_ ?_;refine aR ?_;refine bf cj (aG 2) (ao (az 0));refine aH (ao (az 1)) aD
abbrev Bj:Stmt:=inClass (top 20) 0
theorem ZX:bH ["self"] ["self"] (aY Bj):=by trivial
def Bk:MS :=
  (aC (fM ["Reader"] "held" (aa 0) (mC (.str [])))
  (fM ["Reader"] "place" (aa 0) (mC (.int 0))))
def sU:List D->aq->Res D:=bI 1 Bk
abbrev Le(Pr:Program)(w:World)(K:Frag)(mg:Str->Option Value)(base:Heap):Prop:=rF Pr w K mg base "Reader" ["self"] 1 (vSp K mg [.v] (rV K) sU)
theorem ZZ(d:uE K mg "Reader" "Reader.__init__" Bj)
  (B:b7 mg)
  (NK:bJ K=true)
  (c:KC K mg "Reader" "held")
  (a:KC K mg "Reader" "place"):
  Le Pr w K mg base:=by
 refine Jm (k:=0) (b:=Bk) d ZX (λ_ _ _ _ _ _=>bh λ_=>b8 rfl) [.v] [] cA (λ_ _ _ _=>Rp.non) (body:=λf g A outer s H E h P=>?_);refine aL ?_ ?_;refine jO (dC c dB) (az 0) (aP []);refine aN ?_;refine jO (dC a dB) (az 0) aF
abbrev Bm:Stmt:=inClass (top 20) 4
theorem sV:bH ["self","sign","seen","first","mark","told"] ["self","sign"] (aY Bm):=by trivial
def Bo:MS :=
  (aC (aK 2 (ak aM (dz ["Reader"] "held" (aa 0)) (aa 1)))
  (aC (aK 3 (ak m7 (dz ["Reader"] "place" (aa 0)) (bx bY (aj (dz ["Reader"] "held" (aa 0)) au))))
  (aC (fM ["Reader"] "place" (aa 0) (ak aM (dz ["Reader"] "place" (aa 0)) (mC (.int 1))))
  (aC (aX (bW (aJ nR (aj (aa 2) au))) (aC (fM ["Reader"] "held" (aa 0) (aa 2))
  (aO (bV au))) bc)
  (aC (aK 4 (aJ nQ (aj (aa 2) au)))
  (aC (aX (aB (ir (aa 4))) (aC (fM ["Reader"] "held" (aa 0) (mC (.str [])))
  (aO (bV (aj (bT (aj (aa 3) (aj (ak gIx (aa 4) (mC (.int 0))) (aj (ak gIx (aa 4) (mC (.int 1))) au)))) au)))) bc)
  (aC (aX (aB (ak gEq (aa 1) (mC (.str [91])))) (aC (aK 5 (aJ pM (aj (aa 3) (aj (dz ["Reader"] "held" (aa 0)) au))))
  (aC (fM ["Reader"] "held" (aa 0) (mG (aa 1)))
  (aO (aa 5)))) bc)
  (aC (fM ["Reader"] "held" (aa 0) (mC (.str [])))
  (aO (aJ pM (aj (aa 3) (aj (aa 2) au))))))))))))
def iZ:List D->aq->Res D:=bI 6 Bo
abbrev Lf(Pr:Program)(w:World)(K:Frag)(mg:Str->Option Value)(base:Heap):Prop:=fO Pr w K mg base "Reader" "take" ["self","sign"] 3 (vSp K mg [.v,.s] (rO K) iZ)
theorem Z0(l:jP K mg "Reader" "take" "Reader.take" Bm)
  (B:b7 mg)
  (NK:bJ K=true)
  (d:KC K mg "Reader" "place")
  (a:KC K mg "Reader" "held")
  (j:Lb Pr w K mg base)
  (h:La Pr w K mg base)
  (g:Bf Pr w K mg base):
  Lf Pr w K mg base:=by
 refine lY (k:=2) (b:=Bo) l sV (λ_ _ _ _ _ _=>bh λ_=>bh λ_=>b8 rfl) [.v,.s] [.v,.v,.v,.o] du (λ_ _ _ _=>.inl ⟨rfl,Rp.non⟩) (body:=λf m A outer s H E c P=>?_);refine aL ?_ ?_;refine bB (i:=2) sV.nd rfl (.inl rfl) ?_;refine bz ?_;refine bf cj ?_ (aG 1);refine ao (gO (dC a dB) (az 0));refine aL ?_ ?_;refine bB (i:=3) sV.nd rfl (.inl rfl) ?_;refine bz ?_;refine bf xW ?_ ?_;refine ao (gO (dC d dB) (az 0));refine aR ?_;refine dG (ms:=[.s]) (hv:=dI) dH B.len_ ?_;refine aH ?_ aD;refine ao (gO (dC a dB) (az 0));refine aL ?_ ?_;refine jO (dC d dB) (az 0) ?_
 refine bz ?_;refine bf cj ?_ (ao aF);refine ao (gO (dC d dB) (az 0));refine aL ?_ ?_;refine bN ?_ ?_ bZ;refine eQ ?_;refine ao ?_;refine bM j (c.mono (by decide)) ?_;refine aH (ao (az 2)) aD;refine aL ?_ ?_;refine jO (dC a dB) (az 0) (az 2);refine aN ?_;refine gh (dF 0 aD);refine aL ?_ ?_;refine bB (i:=4) sV.nd rfl (.inl rfl) ?_;refine bM h (c.mono (by decide)) ?_;refine aH (ao (az 2)) aD;refine aL ?_ ?_;refine bN ?_ ?_ bZ;refine xT (ao (az 4));refine aL ?_ ?_;refine jO (dC a dB) (az 0) (aP []);refine aN ?_;refine gh ?_;refine dF 1 ?_
 refine aU ?_ aD;refine cW 3 ?_;refine aU (az 3) ?_;refine aU ?_ ?_;refine bu (ao (az 4)) (ao aF);refine aU ?_ aD;refine bu (ao (az 4)) (ao aF);refine aL ?_ ?_;refine bN ?_ ?_ bZ;refine bj (bw c) (aG 1) (ao (aP [91])) (aZ _);refine aL ?_ ?_;refine jH (i:=5) sV.nd rfl (.inl rfl) ?_;refine iB g (c.mono (by decide)) ?_;refine aH (ao (az 3)) ?_;refine aH ?_ aD;refine ao (gO (dC a dB) (az 0));refine aL ?_ (aN (oW 5));refine jO (dC a dB) (az 0) (cP (aG 1));refine aL ?_ ?_;refine jO (dC a dB) (az 0) (aP []);refine aN ?_;refine gh ?_;refine iB g (c.mono (by decide)) ?_
 refine aH (ao (az 3)) ?_;refine aH (ao (az 2)) aD
abbrev Bs:Stmt:=inClass (top 20) 1
theorem Bt:bH ["self","piece","told","sign"] ["self","piece"] (aY Bs):=by trivial
def Bu:MS :=
  (aC (oV (aJ uZ (aj (aa 1) au)))
  (aC (aK 2 (bV au))
  (aC (cY (cR (aa 1)) (mgN 3) (lz 2 (bQ "Reader" "take" iZ (aa 0) (aj (aa 3) au))))
  (aO (aa 2)))))
def u9:List D->aq->Res D:=bI 4 Bu
abbrev Lg(Pr:Program)(w:World)(K:Frag)(mg:Str->Option Value)(base:Heap):Prop:=fO Pr w K mg base "Reader" "feed" ["self","piece"] 4 (vSp K mg [.v,.s] (rO K) u9)
theorem Z1(g:jP K mg "Reader" "feed" "Reader.feed" Bs)
  (B:b7 mg)
  (NK:bJ K=true)
  (d:K8 Pr w K mg base)
  (c:Lf Pr w K mg base):
  Lg Pr w K mg base:=by
 refine lY (k:=3) (b:=Bu) g Bt (λ_ _ _ _ _ _=>bh λ_=>bh λ_=>b8 rfl) [.v,.s] [.o,.v] du (λ_ _ _ _=>.inl ⟨rfl,Rp.non⟩) (body:=λf h A outer s H E a P=>?_);refine aL ?_ ?_;refine Ij ?_;refine ao ?_;refine bM d (a.mono (by decide)) ?_;refine aH (aG 1) aD;refine aL ?_ ?_;refine jH (i:=2) Bt.nd rfl (.inl rfl) (dF 0 aD);refine aL ?_ (aN (oW 2));refine gH rfl (nA (o8 1)) (dg (i:=3) Bt.nd rfl (.inl rfl)) ?_;refine aN ?_;refine WY 2 ?_;refine aR ?_;refine o9 c (a.mono (by decide)) (az 0) ?_;refine aH (ao (az 3)) aD
abbrev By:Stmt:=inClass (top 20) 3
theorem Lh:bH ["self","told"] ["self"] (aY By):=by trivial
def BJ:MS :=
  (aC (aK 1 (aJ pM (aj (ak m7 (dz ["Reader"] "place" (aa 0)) (bx bY (aj (dz ["Reader"] "held" (aa 0)) au))) (aj (dz ["Reader"] "held" (aa 0)) au))))
  (aC (fM ["Reader"] "held" (aa 0) (mC (.str [])))
  (aO (aa 1))))
def vd:List D->aq->Res D:=bI 2 BJ
abbrev Li(Pr:Program)(w:World)(K:Frag)(mg:Str->Option Value)(base:Heap):Prop:=fO Pr w K mg base "Reader" "finish" ["self"] 3 (vSp K mg [.v] (rO K) vd)
theorem Z2(h:jP K mg "Reader" "finish" "Reader.finish" By)
  (B:b7 mg)
  (NK:bJ K=true)
  (a:KC K mg "Reader" "held")
  (d:KC K mg "Reader" "place")
  (c:Bf Pr w K mg base):
  Li Pr w K mg base:=by
 refine lY (k:=2) (b:=BJ) h Lh (λ_ _ _ _ _ _=>bh λ_=>b8 rfl) [.v] [.o] du (λ_ _ _ _=>.inl ⟨rfl,Rp.non⟩) (body:=λf j A outer s H E g P=>?_);refine aL ?_ ?_;refine jH (i:=1) Lh.nd rfl (.inl rfl) ?_;refine iB c (g.mono (by decide)) ?_;refine aH ?_ ?_;refine aR ?_;refine bf xW ?_ ?_;refine ao (gO (dC d dB) (az 0));refine aR ?_;refine dG (ms:=[.s]) (hv:=dI) dH B.len_ ?_;refine aH ?_ aD;refine ao (gO (dC a dB) (az 0));refine aH ?_ aD;refine ao (gO (dC a dB) (az 0));refine aL ?_ (aN (oW 1));refine jO (dC a dB) (az 0) (aP [])
abbrev BL:Stmt:=top 21
theorem BP:bH ["text","reader","told"] ["text"] (aY BL):=by trivial
def BR:MS :=
  (aC (aK 1 (jQ "Reader" sU au))
  (aC (aK 2 (bQ "Reader" "feed" u9 (aa 1) (aj (aa 0) au)))
  (aO (ak aM (aa 2) (bQ "Reader" "finish" vd (aa 1) au)))))
def pN:List D->aq->Res D:=bI 3 BR
abbrev Lj(Pr:Program)(w:World)(K:Frag)(mg:Str->Option Value)(base:Heap):Prop:=Can Pr w K mg base "items_of" ["text"] 5 (vSp K mg [.s] (rO K) pN)
theorem Z3(h:Def K mg "items_of" BL)
  (B:b7 mg)
  (NK:bJ K=true)
  (g:Le Pr w K mg base)
  (d:Lg Pr w K mg base)
  (c:Li Pr w K mg base):
  Lj Pr w K mg base:=by
 refine cJ (k:=4) (b:=BR) h BP (λ_ _ _ _ _ _=>bh λ_=>b8 rfl) [.s] [.v,.v] du (λ_ _ _ _=>.inl ⟨rfl,Rp.non⟩) (body:=λf j A outer s H E a P=>?_);refine aL (bB (i:=1) BP.nd rfl (.inl rfl) (W3 g (a.mono (by decide)))) ?_;refine aL ?_ ?_;refine bB (i:=2) BP.nd rfl (.inl rfl) ?_;refine bz ?_;refine o9 d (a.mono (by decide)) (az 1) ?_;refine aH (aG 0) aD;refine aN ?_;refine gh ?_;refine bf cj (ao (az 2)) ?_;refine aR (Xe c (a.mono (by decide)) (az 1))
abbrev Ca:Stmt:=top 22
theorem Z4:bH ["kind","value"] ["kind","value"] (aY Ca):=by trivial
def vf:MS :=
  (aC (aX (aB (ak gEq (aa 0) (mC (.str [115,105,103,110])))) (aO (mIf (aB (ak gEq (aa 1) (mC (.str [91])))) (mC (.str [91,91])) (mG (aa 1)))) bc)
  (aC (aX (aB (ak gEq (aa 0) (mC (.str [105,110,107])))) (aO (ak aM (ak aM (mC (.str [91])) (aa 1)) (mC (.str [93])))) bc)
  (aC (aX (aB (ak gEq (aa 0) (mC (.str [103,114,111,117,110,100])))) (aO (ak aM (ak aM (mC (.str [91,47])) (aa 1)) (mC (.str [93])))) bc)
  (aC (aX (aB (ak gEq (aa 0) (mC (.str [112,108,97,105,110])))) (aO (mC (.str [91,93]))) bc)
  (aO (mIf (aB (ak gEq (aa 0) (mC (.str [101,110,100])))) (mC (.str [10])) (mC (.str [9]))))))))
def jU:List D->aq->Res D:=bI 2 vf
abbrev vg(Pr:Program)(w:World)(K:Frag)(mg:Str->Option Value)(base:Heap):Prop:=Can Pr w K mg base "written" ["kind","value"] 1 (vSp K mg [.s,.s] (rV K) jU)
theorem Z5(g:Def K mg "written" Ca)
  (B:b7 mg)
  (NK:bJ K=true)
  (d:∃u,mg "ANEW_SIGN" = some u/\RelV (.str (S [9])) u)
  (c:∃u,mg "ROW_END" = some u/\RelV (.str (S [10])) u):
  vg Pr w K mg base:=by
 refine cJ (k:=0) (b:=vf) g Z4 (λ_ _ _ _ _ _=>bh λ_=>bh λ_=>b8 rfl) [.s,.s] [] cA (λ_ _ _ _=>Rp.non) (body:=λf h A outer s H E a P=>?_);refine aL ?_ ?_;refine bN ?_ ?_ bZ;refine bj (bw a) (aG 0) (ao (aP [115,105,103,110])) (aZ _);refine aN ?_;refine bG ?_;refine kO ?_ (aP [91,91]) (cP (aG 1));refine bj (bw a) (aG 1) (ao (aP [91])) (aZ _);refine aL ?_ ?_;refine bN ?_ ?_ bZ;refine bj (bw a) (aG 0) (ao (aP [105,110,107])) (aZ _);refine aN ?_;refine bG ?_;refine bz ?_;refine bf cj ?_ (ao (aP [93]));refine aR ?_;refine bf cj (ao (aP [91])) (aG 1)
 refine aL ?_ ?_;refine bN ?_ ?_ bZ;refine bj (bw a) (aG 0) (ao (aP [103,114,111,117,110,100])) (aZ _);refine aN ?_;refine bG ?_;refine bz ?_;refine bf cj ?_ (ao (aP [93]));refine aR ?_;refine bf cj (ao (aP [91,47])) (aG 1);refine aL ?_ ?_;refine bN ?_ ?_ bZ;refine bj (bw a) (aG 0) (ao (aP [112,108,97,105,110])) (aZ _);refine aN (bG (aP [91,93]));refine aN ?_;refine bG ?_;refine kO ?_ ?_ ?_;refine bj (bw a) (aG 0) (ao (aP [101,110,100])) (aZ _);refine kI c (λ_ _ _=>Rp.str);refine kI d (λ_ _ _=>Rp.str)
abbrev Ce:Stmt:=top 25
theorem Z6:bH ["pair","kind","value"] ["pair","kind","value"] (aY Ce):=by trivial
def pO:MS :=
  (aC (aX (aB (ak gEq (aa 1) (mC (.str [105,110,107])))) (aO (bT (aj (mG (aa 2)) (aj (ak gIx (aa 0) (mC (.int 1))) au)))) bc)
  (aC (aX (aB (ak gEq (aa 1) (mC (.str [103,114,111,117,110,100])))) (aO (bT (aj (ak gIx (aa 0) (mC (.int 0))) (aj (mG (aa 2)) au)))) bc)
  (aC (aX (aB (ak gEq (aa 1) (mC (.str [115,105,103,110])))) (aO (mG (aa 0))) bc)
  (aO (mC (.tup [.str [46],.str [46]]))))))
def mL:List D->aq->Res D:=bI 3 pO
abbrev Ln(Pr:Program)(w:World)(K:Frag)(mg:Str->Option Value)(base:Heap):Prop:=Can Pr w K mg base "pair_behind" ["pair","kind","value"] 1 (vSp K mg [.s,.s,.s] (rV K) mL)
theorem Z7(d:Def K mg "pair_behind" Ce)
  (B:b7 mg)
  (NK:bJ K=true)
  (c:mq K mg "PLAIN" [[46],[46]]):
  Ln Pr w K mg base:=by
 refine cJ (k:=0) (b:=pO) d Z6 (λ_ _ _ _ _ _=>bh λ_=>bh λ_=>bh λ_=>b8 rfl) [.s,.s,.s] [] cA (λ_ _ _ _=>Rp.non) (body:=λf g A outer s H E a P=>?_);refine aL ?_ ?_;refine bN ?_ ?_ bZ;refine bj (bw a) (aG 1) (ao (aP [105,110,107])) (aZ _);refine aN ?_;refine bG ?_;refine cW 2 ?_;refine aU (cP (aG 2)) ?_;refine aU ?_ aD;refine bu (aG 0) (ao aF);refine aL ?_ ?_;refine bN ?_ ?_ bZ;refine bj (bw a) (aG 1) (ao (aP [103,114,111,117,110,100])) (aZ _);refine aN ?_;refine bG ?_;refine cW 2 ?_;refine aU ?_ ?_;refine bu (aG 0) (ao aF);refine aU (cP (aG 2)) aD
 refine aL ?_ ?_;refine bN ?_ ?_ bZ;refine bj (bw a) (aG 1) (ao (aP [115,105,103,110])) (aZ _);refine aN ?_;refine bG (cP (aG 0));refine aN (bG (mD (ls:=[[46],[46]]) c))
abbrev Ci:Stmt:=top 28
theorem Lp:bH ["move","prices","beyond"] ["move","prices"] (aY Ci):=by trivial
def vh:MS :=
  (aC (aK 2 (dJ (mG (aa 1)) (ak gIx (aa 0) (mC (.int 2)))))
  (aO (mIf (aB (jE (aa 2))) (mC .non) (ak aM (ak gIx (aa 0) (mC (.int 0))) (aa 2)))))
def lG:List D->aq->Res D:=bI 3 vh
abbrev Cj(Pr:Program)(w:World)(K:Frag)(mg:Str->Option Value)(base:Heap):Prop:=Can Pr w K mg base "cost_over" ["move","prices"] 1 (vSp K mg [.s,.s] (rV K) lG)
theorem Z8(c:Def K mg "cost_over" Ci)
  (B:b7 mg)
  (NK:bJ K=true):
  Cj Pr w K mg base:=by
 refine cJ (k:=0) (b:=vh) c Lp (λ_ _ _ _ _ _=>bh λ_=>bh λ_=>b8 rfl) [.s,.s] [.v] cA (λ_ _ _ _=>Rp.non) (body:=λf d A outer s H E a P=>?_);refine aL ?_ ?_;refine bB (i:=2) Lp.nd rfl (.inl rfl) ?_;refine rY NK a (cP (aG 1)) ?_;refine bu (aG 0) (ao aF);refine aN ?_;refine bG ?_;refine kO ?_ lU ?_;refine xR (ao (az 2));refine bz ?_;refine bf cj ?_ (ao (az 2));refine ao ?_;refine bu (aG 0) (ao aF)
abbrev sW:Stmt:=top 29
theorem Lq:bH ["moves","prices","costs"] ["moves","prices"] (aY sW):=by trivial
def vm:MS :=
  (aC (aK 2 (eZ (cR (aa 0)) 1 [1] (mgN 0) iz (aJ lG (aj (aa 0) (aj (aa 1) au)))))
  (aO (bx uH (aj (eZ (cR (aa 2)) 1 [] (mgN 0) (aB (ir (aa 0))) (aa 0)) au))))
def nW:List D->aq->Res D:=bI 3 vm
abbrev Cm(Pr:Program)(w:World)(K:Frag)(mg:Str->Option Value)(base:Heap):Prop:=Can Pr w K mg base "least_cost" ["moves","prices"] 2 (vSp K mg [.s,.s] (rV K) nW)
theorem Z9(d:Def K mg "least_cost" sW)
  (B:b7 mg)
  (NK:bJ K=true)
  (a:Cj Pr w K mg base):
  Cm Pr w K mg base:=by
 refine cJ (k:=1) (b:=vm) d Lq (λ_ _ _ _ _ _=>bh λ_=>bh λ_=>b8 rfl) [.s,.s] [.v] cA (λ_ _ _ _=>Rp.non) (body:=λf g A outer s H E c P=>?_);refine aL ?_ ?_;refine V6 (i:=2) (aY sW) ["moves","prices","costs"] ["move"] [1] Lq.nd rfl (.inl rfl) rfl (rG (aG 0)) (λ_ _ _ _ P=>?_) (λ_ _ _ _ P=>?_) (λ_ _ _ _ P=>?_);exact dg (i:=0) (show(cu ["moves","prices","costs"] ["move"] [1]).Nodup by decide +kernel) rfl (.inl rfl);exact qX;refine bM a (c.mono (by decide)) ?_;refine aH (ao (az 0)) ?_;refine aH (aG 1) aD;refine aN ?_;refine bG ?_;refine bz ?_
 refine Xu rfl B.min_ ?_;refine aR ?_;refine oX (aY sW) ["moves","prices","costs"] ["cost"] [] rfl ?_ (λ_ _ _ _ P=>?_) (λ_ _ _ _ P=>?_) (λ_ _ _ _ P=>?_);refine rG (ao (az 2));exact dg (i:=0) (show(cu ["moves","prices","costs"] ["cost"] []).Nodup by decide +kernel) rfl (.inl rfl);refine Ip ?_;refine xT (ao (az 0));exact az 0
abbrev Cr:Stmt:=inClass (top 38) 2
theorem Qlu:bH ["self"] ["self"] (aY Cr):=by trivial
def vo:MS :=
  (aO (ak aM (bx bY (aj (dz ["Leaps"] "look" (aa 0)) au)) (mC (.int 1))))
def fV:List D->aq->Res D:=bI 1 vo
abbrev sX(Pr:Program)(w:World)(K:Frag)(mg:Str->Option Value)(base:Heap):Prop:=fO Pr w K mg base "Leaps" "last_at" ["self"] 1 (vSp K mg [.v] (rV K) fV)
theorem Qla(c:jP K mg "Leaps" "last_at" "Leaps.last_at" Cr)
  (B:b7 mg)
  (NK:bJ K=true)
  (a:KC K mg "Leaps" "look"):
  sX Pr w K mg base:=by
 refine lY (k:=0) (b:=vo) c Qlu (λ_ _ _ _ _ _=>bh λ_=>b8 rfl) [.v] [] cA (λ_ _ _ _=>Rp.non) (body:=λf d A outer s H E g P=>?_);refine aN ?_;refine bG ?_;refine bz ?_;refine bf cj ?_ (ao aF);refine aR ?_;refine dG (ms:=[.s]) (hv:=dI) dH B.len_ ?_;refine aH ?_ aD;refine ao (gO (dC a dB) (az 0))
abbrev vp:Stmt:=inClass (top 38) 3
theorem Lr:bH ["self","at","letter"] ["self","at"] (aY vp):=by trivial
def vq:MS :=
  (aC (aX (cB (aB (ak gEq (aa 1) (mC (.int 0)))) (aB (ak gEq (aa 1) (bQ "Leaps" "last_at" fV (aa 0) au)))) (aO (bV (aj (bT (aj (mG (aa 1)) (aj (mC (.tup [.str [46],.str [46]])) au))) au))) bc)
  (aC (aK 2 (ak gIx (dz ["Leaps"] "look" (aa 0)) (ak m7 (aa 1) (mC (.int 1)))))
  (aC (aX (aB (ak gEq (ak gIx (aa 2) (mC (.int 0))) (mC (.str [32])))) (aO (eZ (cR (dz ["Leaps"] "inks" (aa 0))) 1 [1,2] (mgN 0) iz (bT (aj (mG (aa 1)) (aj (bT (aj (aa 0) (aj (ak gIx (aa 2) (mC (.int 2))) au))) au))))) bc)
  (aO (bV (aj (bT (aj (mG (aa 1)) (aj (bT (aj (ak gIx (aa 2) (mC (.int 1))) (aj (ak gIx (aa 2) (mC (.int 2))) au))) au))) au))))))
def mO:List D->aq->Res D:=bI 3 vq
abbrev Cv(Pr:Program)(w:World)(K:Frag)(mg:Str->Option Value)(base:Heap):Prop:=fO Pr w K mg base "Leaps" "nodes_at" ["self","at"] 2 (vSp K mg [.v,.s] (rO K) mO)
theorem QkE(j:jP K mg "Leaps" "nodes_at" "Leaps.nodes_at" vp)
  (B:b7 mg)
  (NK:bJ K=true)
  (h:mq K mg "PLAIN" [[46],[46]])
  (g:KC K mg "Leaps" "look")
  (c:KC K mg "Leaps" "inks")
  (d:sX Pr w K mg base):
  Cv Pr w K mg base:=by
 refine lY (k:=1) (b:=vq) j Lr (λ_ _ _ _ _ _=>bh λ_=>bh λ_=>b8 rfl) [.v,.s] [.v] du (λ_ _ _ _=>.inl ⟨rfl,Rp.non⟩) (body:=λf l A outer s H E a P=>?_);refine aL ?_ ?_;refine bN ?_ ?_ bZ;refine eY ?_;refine gD ?_ ?_;refine bj (bw a) (aG 1) (ao aF) (aZ _);refine iJ ?_;refine bj (bw a) (aG 1) ?_ (aZ _);refine ao (rK d (a.mono (by decide)) (az 0));refine aN ?_;refine gh ?_;refine dF 1 ?_;refine aU ?_ aD;refine cW 2 ?_;refine aU (cP (aG 1)) ?_;refine aU (mD (ls:=[[46],[46]]) h) aD;refine aL ?_ ?_;refine bB (i:=2) Lr.nd rfl (.inr rfl) ?_
 refine bu ?_ ?_;refine ao (gO (dC g dB) (az 0));refine aR ?_;refine bf xW (aG 1) (ao aF);refine aL ?_ ?_;refine bN ?_ ?_ bZ;refine bj (bw a) ?_ (ao (aP [32])) (aZ _);refine ao ?_;refine bu (ao (az 2)) (ao aF);refine aN ?_;refine gh ?_;refine oX (aY vp) ["self","at","letter"] ["ink"] [1,2] rfl ?_ (λ_ _ _ _ P=>?_) (λ_ _ _ _ P=>?_) (λ_ _ _ _ P=>?_);refine rG ?_;refine ao (gO (dC c dB) (az 0));exact dg (i:=0) (show(cu ["self","at","letter"] ["ink"] [1,2]).Nodup by decide +kernel) rfl (.inl rfl);exact qX;refine cW 2 ?_;refine aU (cP (aG 1)) ?_
 refine aU ?_ aD;refine cW 2 ?_;refine aU (az 0) ?_;refine aU ?_ aD;refine bu (ao (az 2)) (ao aF);refine aN ?_;refine gh ?_;refine dF 1 ?_;refine aU ?_ aD;refine cW 2 ?_;refine aU (cP (aG 1)) ?_;refine aU ?_ aD;refine cW 2 ?_;refine aU ?_ ?_;refine bu (ao (az 2)) (ao aF);refine aU ?_ aD;refine bu (ao (az 2)) (ao aF)
abbrev Cy:Stmt:=top 36
theorem Ls:bH ["pair","kind","colour","place"] ["pair","kind","colour"] (aY Cy):=by trivial
def pR:MS :=
  (aC (aK 3 (mIf (aB (ak gEq (aa 1) (mC (.str [105,110,107])))) (mC (.int 0)) (mC (.int 1))))
  (aO (mIf (aB (ak gEq (ak gIx (aa 0) (aa 3)) (aa 2))) (mC (.str [])) (aJ jU (aj (aa 1) (aj (aa 2) au))))))
def jt:List D->aq->Res D:=bI 4 pR
abbrev Lw(Pr:Program)(w:World)(K:Frag)(mg:Str->Option Value)(base:Heap):Prop:=Can Pr w K mg base "marks_to" ["pair","kind","colour"] 2 (vSp K mg [.s,.s,.s] (rV K) jt)
theorem Qo1(d:Def K mg "marks_to" Cy)
  (B:b7 mg)
  (NK:bJ K=true)
  (c:vg Pr w K mg base):
  Lw Pr w K mg base:=by
 refine cJ (k:=1) (b:=pR) d Ls (λ_ _ _ _ _ _=>bh λ_=>bh λ_=>bh λ_=>b8 rfl) [.s,.s,.s] [.v] cA (λ_ _ _ _=>Rp.non) (body:=λf g A outer s H E a P=>?_);refine aL ?_ ?_;refine bB (i:=3) Ls.nd rfl (.inl rfl) ?_;refine kO ?_ aF aF;refine bj (bw a) (aG 1) (ao (aP [105,110,107])) (aZ _);refine aN ?_;refine bG ?_;refine kO ?_ (aP []) ?_;refine bj (bw a) ?_ (aG 2) (aZ _);refine ao ?_;refine bu (aG 0) (ao (az 3));refine bM c (a.mono (by decide)) ?_;refine aH (aG 1) ?_;refine aH (aG 2) aD
abbrev CG:Stmt:=top 37
theorem CJ:bH ["pair","other","straight","anew"] ["pair","other"] (aY CG):=by trivial
def vz:MS :=
  (aC (aK 2 (ak aM (aJ jt (aj (aa 0) (aj (mC (.str [105,110,107])) (aj (ak gIx (aa 1) (mC (.int 0))) au)))) (aJ jt (aj (aa 0) (aj (mC (.str [103,114,111,117,110,100])) (aj (ak gIx (aa 1) (mC (.int 1))) au))))))
  (aC (aK 3 (ak aM (ak aM (aJ jU (aj (mC (.str [112,108,97,105,110])) (aj (mC (.str [])) au))) (aJ jt (aj (mC (.tup [.str [46],.str [46]])) (aj (mC (.str [105,110,107])) (aj (ak gIx (aa 1) (mC (.int 0))) au))))) (aJ jt (aj (mC (.tup [.str [46],.str [46]])) (aj (mC (.str [103,114,111,117,110,100])) (aj (ak gIx (aa 1) (mC (.int 1))) au))))))
  (aO (mIf (aB (ak gLt (bx bY (aj (aa 3) au)) (bx bY (aj (aa 2) au)))) (aa 3) (aa 2)))))
def vA:List D->aq->Res D:=bI 4 vz
abbrev Lx(Pr:Program)(w:World)(K:Frag)(mg:Str->Option Value)(base:Heap):Prop:=Can Pr w K mg base "marks_between" ["pair","other"] 3 (vSp K mg [.s,.s] (rV K) vA)
theorem Qlw(h:Def K mg "marks_between" CG)
  (B:b7 mg)
  (NK:bJ K=true)
  (d:mq K mg "PLAIN" [[46],[46]])
  (c:Lw Pr w K mg base)
  (g:vg Pr w K mg base):
  Lx Pr w K mg base:=by
 refine cJ (k:=2) (b:=vz) h CJ (λ_ _ _ _ _ _=>bh λ_=>bh λ_=>b8 rfl) [.s,.s] [.v,.v] cA (λ_ _ _ _=>Rp.non) (body:=λf j A outer s H E a P=>?_);refine aL ?_ ?_;refine bB (i:=2) CJ.nd rfl (.inl rfl) ?_;refine bz ?_;refine bf cj ?_ ?_;refine ao ?_;refine bM c (a.mono (by decide)) ?_;refine aH (aG 0) ?_;refine aH (ao (aP [105,110,107])) ?_;refine aH ?_ aD;refine ao ?_;refine bu (aG 1) (ao aF);refine ao ?_;refine bM c (a.mono (by decide)) ?_;refine aH (aG 0) ?_;refine aH (ao (aP [103,114,111,117,110,100])) ?_;refine aH ?_ aD;refine ao ?_;refine bu (aG 1) (ao aF)
 refine aL ?_ ?_;refine bB (i:=3) CJ.nd rfl (.inl rfl) ?_;refine bz ?_;refine bf cj ?_ ?_;refine aR ?_;refine bf cj ?_ ?_;refine ao ?_;refine bM g (a.mono (by decide)) ?_;refine aH (ao (aP [112,108,97,105,110])) ?_;refine aH (ao (aP [])) aD;refine ao ?_;refine bM c (a.mono (by decide)) ?_;refine aH (ao (mD (ls:=[[46],[46]]) d)) ?_;refine aH (ao (aP [105,110,107])) ?_;refine aH ?_ aD;refine ao ?_;refine bu (aG 1) (ao aF);refine ao ?_;refine bM c (a.mono (by decide)) ?_;refine aH (ao (mD (ls:=[[46],[46]]) d)) ?_;refine aH (ao (aP [103,114,111,117,110,100])) ?_
 refine aH ?_ aD;refine ao ?_;refine bu (aG 1) (ao aF);refine aN ?_;refine bG ?_;refine kO ?_ (az 3) (az 2);refine bj qZ ?_ ?_ (aZ _);refine aR ?_;refine dG (ms:=[.s]) (hv:=dI) dH B.len_ ?_;refine aH (ao (az 3)) aD;refine aR ?_;refine dG (ms:=[.s]) (hv:=dI) dH B.len_ ?_;refine aH (ao (az 2)) aD
abbrev CN:Stmt:=inClass (top 38) 4
theorem pW:bH ["self","node","at","sign","moves","beyond","marks"] ["self","node"] (aY CN):=by trivial
def vB:MS :=
  (aC (aK 2 (ak gIx (aa 1) (mC (.int 0))))
  (aC (aX (aB (ak gEq (aa 2) (bQ "Leaps" "last_at" fV (aa 0) au))) (aO (bV au)) bc)
  (aC (aK 3 (mIf (aB (ak gLt (aa 2) (bx bY (aj (dz ["Leaps"] "look" (aa 0)) au)))) (aJ jU (aj (mC (.str [115,105,103,110])) (aj (ak gIx (ak gIx (dz ["Leaps"] "look" (aa 0)) (aa 2)) (mC (.int 0))) au))) (mC (.str []))))
  (aC (aK 4 (bV au))
  (aC (cY (cR (bQ "Leaps" "nodes_at" mO (aa 0) (aj (ak aM (aa 2) (mC (.int 1))) au))) (mgN 5) (aC (aK 6 (aJ vA (aj (ak gIx (aa 1) (mC (.int 1))) (aj (ak gIx (aa 5) (mC (.int 1))) au))))
  (cO 4 (bT (aj (bx bY (aj (aa 6) au)) (aj (ak aM (aa 6) (aa 3)) (aj (aa 5) au)))))))
  (aO (aa 4)))))))
def jV:List D->aq->Res D:=bI 7 vB
abbrev CP(Pr:Program)(w:World)(K:Frag)(mg:Str->Option Value)(base:Heap):Prop:=fO Pr w K mg base "Leaps" "moves_from" ["self","node"] 4 (vSp K mg [.v,.s] (rO K) jV)
theorem Qjm(l:jP K mg "Leaps" "moves_from" "Leaps.moves_from" CN)
  (B:b7 mg)
  (NK:bJ K=true)
  (c:KC K mg "Leaps" "look")
  (h:sX Pr w K mg base)
  (g:vg Pr w K mg base)
  (d:Cv Pr w K mg base)
  (j:Lx Pr w K mg base):
  CP Pr w K mg base:=by
 refine lY (k:=3) (b:=vB) l pW (λ_ _ _ _ _ _=>bh λ_=>bh λ_=>b8 rfl) [.v,.s] [.v,.v,.o,.v,.v] du (λ_ _ _ _=>.inl ⟨rfl,Rp.non⟩) (body:=λf m A outer s H E a P=>?_);refine aL ?_ ?_;refine bB (i:=2) pW.nd rfl (.inl rfl) ?_;refine bu (aG 1) (ao aF);refine aL ?_ ?_;refine bN ?_ ?_ bZ;refine bj (bw a) (ao (az 2)) ?_ (aZ _);refine ao (rK h (a.mono (by decide)) (az 0));refine aN ?_;refine gh (dF 0 aD);refine aL ?_ ?_;refine bB (i:=3) pW.nd rfl (.inl rfl) ?_;refine kO ?_ ?_ (aP []);refine bj qZ (ao (az 2)) ?_ (aZ _);refine aR ?_;refine dG (ms:=[.s]) (hv:=dI) dH B.len_ ?_
 refine aH ?_ aD;refine ao (gO (dC c dB) (az 0));refine bM g (a.mono (by decide)) ?_;refine aH (ao (aP [115,105,103,110])) ?_;refine aH ?_ aD;refine ao ?_;refine bu ?_ (ao aF);refine ao ?_;refine bu ?_ (ao (az 2));refine ao (gO (dC c dB) (az 0));refine aL ?_ ?_;refine jH (i:=4) pW.nd rfl (.inl rfl) (dF 0 aD);refine aL ?_ (aN (oW 4));refine gH rfl ?_ (dg (i:=5) pW.nd rfl (.inl rfl)) ?_;refine nA ?_;refine rn ?_;refine bz ?_;refine o9 d (a.mono (by decide)) (az 0) ?_;refine aH ?_ aD;refine aR ?_;refine bf cj (ao (az 2)) (ao aF);refine aL ?_ ?_
 refine bB (i:=6) pW.nd rfl (.inl rfl) ?_;refine bM j (a.mono (by decide)) ?_;refine aH ?_ ?_;refine ao ?_;refine bu (aG 1) (ao aF);refine aH ?_ aD;refine ao ?_;refine bu (ao (az 5)) (ao aF);refine aN ?_;refine jN 4 ?_;refine cW 3 ?_;refine aU ?_ ?_;refine bz ?_;refine dG (ms:=[.s]) (hv:=dI) dH B.len_ ?_;refine aH (ao (az 6)) aD;refine aU ?_ ?_;refine bz ?_;refine bf cj (ao (az 6)) (ao (az 3));refine aU (az 5) aD
abbrev CV:Stmt:=inClass (top 38) 5
theorem QlX:bH ["self","node"] ["self","node"] (aY CV):=by trivial
def vC:MS :=
  (aO (ak gEq (ak gIx (aa 1) (mC (.int 0))) (bQ "Leaps" "last_at" fV (aa 0) au)))
def jW:List D->aq->Res D:=bI 2 vC
abbrev CW(Pr:Program)(w:World)(K:Frag)(mg:Str->Option Value)(base:Heap):Prop:=fO Pr w K mg base "Leaps" "is_end" ["self","node"] 2 (vSp K mg [.v,.s] (rV K) jW)
theorem QlR(d:jP K mg "Leaps" "is_end" "Leaps.is_end" CV)
  (B:b7 mg)
  (NK:bJ K=true)
  (c:sX Pr w K mg base):
  CW Pr w K mg base:=by
 refine lY (k:=1) (b:=vC) d QlX (λ_ _ _ _ _ _=>bh λ_=>bh λ_=>b8 rfl) [.v,.s] [] cA (λ_ _ _ _=>Rp.non) (body:=λf g A outer s H E a P=>?_);refine aN ?_;refine bG ?_;refine bz ?_;refine ig (bw a) ?_ ?_ (aZ _);refine ao ?_;refine bu (aG 1) (ao aF);refine ao (rK c (a.mono (by decide)) (az 0))
abbrev Dc:Stmt:=top 30
theorem mQ:bH ["trail","at","prices","moves","node","changed","cost"] ["trail","at","prices"] (aY Dc):=by trivial
def vD:MS :=
  (aC (aK 3 rT)
  (aC (cY (cR (bQ "Leaps" "nodes_at" mO (mG (aa 0)) (aj (aa 1) au))) (mgN 4) (aC (gP (aa 3) (aa 4) (bQ "Leaps" "moves_from" jV (mG (aa 0)) (aj (aa 4) au)))
  (gP (mG (aa 2)) (aa 4) (mIf (bW (bQ "Leaps" "is_end" jW (mG (aa 0)) (aj (aa 4) au))) (mC (.int 0)) (mC .non)))))
  (aC (aK 5 (mC (.bl true)))
  (iK 10 (bW (aa 5)) (aC (aK 5 (mC (.bl false)))
  (pB 3 (cY (pA (aa 3)) (mgN 4) (aC (aK 6 (aJ nW (aj (dJ (aa 3) (aa 4)) (aj (aa 2) au))))
  (aX (cD (aB (ir (aa 6))) (cB (aB (jE (dJ (mG (aa 2)) (aa 4)))) (aB (ak gLt (aa 6) (dJ (mG (aa 2)) (aa 4)))))) (aC (gP (mG (aa 2)) (aa 4) (aa 6))
  (aK 5 (mC (.bl true)))) bc)))))))))
def sY:List D->aq->Res D:=bI 7 vD
abbrev Ly(Pr:Program)(w:World)(K:Frag)(mg:Str->Option Value)(base:Heap):Prop:=Can Pr w K mg base "price_nodes" ["trail","at","prices"] 5 (vSp K mg [.s,.s,.s] (rV K) sY)
theorem Qmo(j:Def K mg "price_nodes" Dc)
  (B:b7 mg)
  (NK:bJ K=true)
  (g:Cv Pr w K mg base)
  (d:CP Pr w K mg base)
  (c:CW Pr w K mg base)
  (h:Cm Pr w K mg base):
  Ly Pr w K mg base:=by
 refine cJ (k:=4) (b:=vD) j mQ (λ_ _ _ _ _ _=>bh λ_=>bh λ_=>bh λ_=>b8 rfl) [.s,.s,.s] [.v,.v,.v,.v] cA (λ_ _ _ _=>Rp.non) (body:=λf l A outer s H E a P=>?_);refine aL (bB (i:=3) mQ.nd rfl (.inl rfl) J2) ?_;refine aL ?_ ?_;refine gH rfl ?_ (dg (i:=4) mQ.nd rfl (.inl rfl)) ?_;refine nA ?_;refine rn ?_;refine bz ?_;refine o9 g (a.mono (by decide)) (cP (aG 0)) ?_;refine aH (aG 1) aD;refine aL ?_ ?_;refine yL NK a (az 3) (az 4) ?_;refine bz ?_;refine o9 d (a.mono (by decide)) (cP (aG 0)) ?_;refine aH (ao (az 4)) aD;refine aN ?_;refine yL NK a (cP (aG 2)) (az 4) ?_
 refine kO ?_ aF lU;refine eQ ?_;refine ao ?_;refine Jw c (a.mono (by decide)) (cP (aG 0)) ?_;refine aH (ao (az 4)) aD;refine aL (bB (i:=5) mQ.nd rfl (.inl rfl) gZ) ?_;refine aN ?_;refine xU 10 ?_ ?_;refine eQ (ao (az 5));refine aL (bB (i:=5) mQ.nd rfl (.inl rfl) gZ) ?_;refine aN ?_;refine YM 3 ?_;refine gH rfl (YL (az 3)) (dg (i:=4) mQ.nd rfl (.inl rfl)) ?_;refine aL ?_ ?_;refine bB (i:=6) mQ.nd rfl (.inl rfl) ?_;refine bM h (a.mono (by decide)) ?_;refine aH ?_ ?_;refine ao ?_;refine rY NK a (az 3) (az 4);refine aH (aG 2) aD;refine aN ?_;refine bN ?_ ?_ bZ
 refine eY ?_;refine gw ?_ ?_;refine xT (ao (az 6));refine oR ?_;refine eY ?_;refine gD ?_ ?_;refine xR ?_;refine ao ?_;refine rY NK a (cP (aG 2)) (az 4);refine iJ ?_;refine bj qZ (ao (az 6)) ?_ (aZ _);refine ao ?_;refine rY NK a (cP (aG 2)) (az 4);refine aL ?_ ?_;refine yL NK a (cP (aG 2)) (az 4) (az 6);refine aN (bB (i:=5) mQ.nd rfl (.inl rfl) gZ)
abbrev De:Stmt:=top 31
theorem Dg:bH ["trail","prices","at"] ["trail"] (aY De):=by trivial
def vG:MS :=
  (aC (aK 1 rT)
  (aC (cY (uI (aj (bQ "Leaps" "last_at" fV (mG (aa 0)) au) (aj (mUn lW (mC (.int 1))) (aj (mUn lW (mC (.int 1))) au)))) (mgN 2) (oV (aJ sY (aj (aa 0) (aj (aa 2) (aj (aa 1) au))))))
  (aO (aa 1))))
def vH:List D->aq->Res D:=bI 3 vG
abbrev Lz(Pr:Program)(w:World)(K:Frag)(mg:Str->Option Value)(base:Heap):Prop:=Can Pr w K mg base "priced" ["trail"] 6 (vSp K mg [.s] (rV K) vH)
theorem QrI(g:Def K mg "priced" De)
  (B:b7 mg)
  (NK:bJ K=true)
  (c:sX Pr w K mg base)
  (d:Ly Pr w K mg base):
  Lz Pr w K mg base:=by
 refine cJ (k:=5) (b:=vG) g Dg (λ_ _ _ _ _ _=>bh λ_=>b8 rfl) [.s] [.v,.v] cA (λ_ _ _ _=>Rp.non) (body:=λf h A outer s H E a P=>?_);refine aL (bB (i:=1) Dg.nd rfl (.inl rfl) J2) ?_;refine aL ?_ ?_;refine gH rfl ?_ (dg (i:=2) Dg.nd rfl (.inl rfl)) ?_;refine Xz B.range_ ?_;refine aH ?_ ?_;refine ao ?_;refine rK c (a.mono (by decide)) (cP (aG 0));refine aH ?_ ?_;refine aR ?_;refine xZ (ao aF);refine aH ?_ aD;refine aR ?_;refine xZ (ao aF);refine aN ?_;refine Ij ?_;refine ao ?_;refine bM d (a.mono (by decide)) ?_;refine aH (aG 0) ?_;refine aH (ao (az 2)) ?_
 refine aH (ao (az 1)) aD;refine aN (bG (az 1))
abbrev vI:Stmt:=top 32
theorem LC:bH ["moves","prices","least"] ["moves","prices"] (aY vI):=by trivial
def vJ:MS :=
  (aC (aK 2 (aJ nW (aj (aa 0) (aj (aa 1) au))))
  (aO (ak gIx (eZ (cR (aa 0)) 1 [1,2] (mgN 0) (aB (ak gEq (aJ lG (aj (aa 0) (aj (aa 1) au))) (aa 2))) (aa 0)) (mC (.int 0)))))
def sZ:List D->aq->Res D:=bI 3 vJ
abbrev LK(Pr:Program)(w:World)(K:Frag)(mg:Str->Option Value)(base:Heap):Prop:=Can Pr w K mg base "first_cheapest" ["moves","prices"] 3 (vSp K mg [.s,.s] (rV K) sZ)
theorem QkH(g:Def K mg "first_cheapest" vI)
  (B:b7 mg)
  (NK:bJ K=true)
  (d:Cm Pr w K mg base)
  (c:Cj Pr w K mg base):
  LK Pr w K mg base:=by
 refine cJ (k:=2) (b:=vJ) g LC (λ_ _ _ _ _ _=>bh λ_=>bh λ_=>b8 rfl) [.s,.s] [.v] cA (λ_ _ _ _=>Rp.non) (body:=λf h A outer s H E a P=>?_);refine aL ?_ ?_;refine bB (i:=2) LC.nd rfl (.inr rfl) ?_;refine bM d (a.mono (by decide)) ?_;refine aH (aG 0) ?_;refine aH (aG 1) aD;refine aN ?_;refine bG ?_;refine bu ?_ (ao aF);refine aR ?_;refine oX (aY vI) ["moves","prices","least"] ["move"] [1,2] rfl (rG (aG 0)) (λ_ _ _ _ P=>?_) (λ_ _ _ _ P=>?_) (λ_ _ _ _ P=>?_);exact dg (i:=0) (show(cu ["moves","prices","least"] ["move"] [1,2]).Nodup by decide +kernel) rfl (.inl rfl)
 refine Ip ?_;refine bj (bw a) ?_ (ao (az 2)) (aZ _);refine ao ?_;refine bM c (a.mono (by decide)) ?_;refine aH (ao (az 0)) ?_;refine aH (aG 1) aD;exact az 0
abbrev Dk:Stmt:=inClass (top 38) 1
theorem Qjo:bH ["self"] ["self"] (aY Dk):=by trivial
def LQ:MS :=
  (aO (bT (aj (mC (.int 0)) (aj (mC (.tup [.str [46],.str [46]])) au))))
def vK:List D->aq->Res D:=bI 1 LQ
abbrev LR(Pr:Program)(w:World)(K:Frag)(mg:Str->Option Value)(base:Heap):Prop:=fO Pr w K mg base "Leaps" "first_node" ["self"] 1 (vSp K mg [.v] (rV K) vK)
theorem Qjn(c:jP K mg "Leaps" "first_node" "Leaps.first_node" Dk)
  (B:b7 mg)
  (NK:bJ K=true)
  (a:mq K mg "PLAIN" [[46],[46]]):
  LR Pr w K mg base:=by
 refine lY (k:=0) (b:=LQ) c Qjo (λ_ _ _ _ _ _=>bh λ_=>b8 rfl) [.v] [] cA (λ_ _ _ _=>Rp.non) (body:=λf d A outer s H E g P=>?_);refine aN ?_;refine bG ?_;refine cW 2 ?_;refine aU aF ?_;refine aU (mD (ls:=[[46],[46]]) a) aD
abbrev Dm:Stmt:=top 33
theorem nY:bH ["trail","prices","node","cost","names","move"] ["trail"] (aY Dm):=by trivial
def vL:MS :=
  (aC (aK 1 (aJ vH (aj (aa 0) au)))
  (aC (aK 2 (bQ "Leaps" "first_node" vK (mG (aa 0)) au))
  (aC (aK 3 (dJ (aa 1) (aa 2)))
  (aC (aX (aB (jE (aa 3))) (aO (mC .non)) bc)
  (aC (aK 4 (bV au))
  (aC (iK 300 (dw (bW (bQ "Leaps" "is_end" jW (mG (aa 0)) (aj (aa 2) au)))) (aC (aK 5 (aJ sZ (aj (bQ "Leaps" "moves_from" jV (mG (aa 0)) (aj (aa 2) au)) (aj (aa 1) au))))
  (aC (cO 4 (ak gIx (aa 5) (mC (.int 1))))
  (aK 2 (ak gIx (aa 5) (mC (.int 2)))))))
  (rN (aO (bT (aj (aa 3) (aj (aa 4) au)))))))))))
def tE:List D->aq->Res D:=bI 6 vL
abbrev Ma(Pr:Program)(w:World)(K:Frag)(mg:Str->Option Value)(base:Heap):Prop:=Can Pr w K mg base "way_of" ["trail"] 7 (vSp K mg [.s] (rV K) tE)
theorem Qr8(l:Def K mg "way_of" Dm)
  (B:b7 mg)
  (NK:bJ K=true)
  (j:Lz Pr w K mg base)
  (h:LR Pr w K mg base)
  (c:CW Pr w K mg base)
  (g:LK Pr w K mg base)
  (d:CP Pr w K mg base):
  Ma Pr w K mg base:=by
 refine cJ (k:=6) (b:=vL) l nY (λ_ _ _ _ _ _=>bh λ_=>b8 rfl) [.s] [.v,.v,.v,.o,.v] cA (λ_ _ _ _=>Rp.non) (body:=λf m A outer s H E a P=>?_);refine aL ?_ ?_;refine bB (i:=1) nY.nd rfl (.inl rfl) ?_;refine bM j (a.mono (by decide)) ?_;refine aH (aG 0) aD;refine aL ?_ ?_;refine bB (i:=2) nY.nd rfl (.inl rfl) ?_;refine rK h (a.mono (by decide)) (cP (aG 0));refine aL ?_ ?_;refine bB (i:=3) nY.nd rfl (.inl rfl) ?_;refine rY NK a (az 1) (az 2);refine aL ?_ ?_;refine bN ?_ ?_ bZ;refine xR (ao (az 3));refine aN (bG lU);refine aL ?_ ?_;refine jH (i:=4) nY.nd rfl (.inl rfl) (dF 0 aD)
 refine aL ?_ ?_;refine xU 300 ?_ ?_;refine jF ?_;refine eQ ?_;refine ao ?_;refine Jw c (a.mono (by decide)) (cP (aG 0)) ?_;refine aH (ao (az 2)) aD;refine aL ?_ ?_;refine bB (i:=5) nY.nd rfl (.inl rfl) ?_;refine bM g (a.mono (by decide)) ?_;refine aH ?_ ?_;refine aR ?_;refine o9 d (a.mono (by decide)) (cP (aG 0)) ?_;refine aH (ao (az 2)) aD;refine aH (ao (az 1)) aD;refine aL ?_ ?_;refine jN 4 ?_;refine bu (ao (az 5)) (ao aF);refine aN ?_;refine bB (i:=2) nY.nd rfl (.inl rfl) ?_;refine bu (ao (az 5)) (ao aF);refine aN ?_;refine Xk 4 rfl ?_
 refine bG ?_;refine cW 2 ?_;refine aU (az 3) ?_;refine aU (az 4) aD
abbrev vM:Stmt:=top 35
theorem Qnu:bH ["look","place"] ["look","place"] (aY vM):=by trivial
def vN:MS :=
  (aO (bx rQ (aj (ak aM (bV (aj (ak gIx (mC (.tup [.str [46],.str [46]])) (mC (.int 0))) au)) (eZ (cR (aa 0)) 1 [1] (mgN 0) iz (ak gIx (aa 0) (aa 1)))) au)))
def nZ:List D->aq->Res D:=bI 2 vN
abbrev Mf(Pr:Program)(w:World)(K:Frag)(mg:Str->Option Value)(base:Heap):Prop:=Can Pr w K mg base "colours_of" ["look","place"] 1 (vSp K mg [.s,.s] (rO K) nZ)
theorem Qnr(c:Def K mg "colours_of" vM)
  (B:b7 mg)
  (NK:bJ K=true)
  (a:mq K mg "PLAIN" [[46],[46]]):
  Mf Pr w K mg base:=by
 refine cJ (k:=0) (b:=vN) c Qnu (λ_ _ _ _ _ _=>bh λ_=>bh λ_=>b8 rfl) [.s,.s] [] du (λ_ _ _ _=>.inl ⟨rfl,Rp.non⟩) (body:=λf d A outer s H E g P=>?_);refine aN ?_;refine gh ?_;refine Yt (ms:=[.s]) rfl B.sorted_ B.set_ ?_;refine aH ?_ aD;refine aR ?_;refine bf cj ?_ ?_;refine aR ?_;refine dF 1 ?_;refine aU ?_ aD;refine bu (ao (mD (ls:=[[46],[46]]) a)) (ao aF);refine aR ?_;refine oX (aY vM) ["look","place"] ["letter"] [1] rfl (rG (aG 0)) (λ_ _ _ _ P=>?_) (λ_ _ _ _ P=>?_) (λ_ _ _ _ P=>?_);exact dg (i:=0) (show(cu ["look","place"] ["letter"] [1]).Nodup by decide +kernel) rfl (.inl rfl)
 exact qX
 refine bu (ao (az 0)) (aG 1)
abbrev Ds:Stmt:=inClass (top 38) 0
theorem QkF:bH ["self","look"] ["self","look"] (aY Ds):=by trivial
def vO:MS :=
  (aC (fM ["Leaps"] "look" (aa 0) (bx kZ (aj (aa 1) au)))
  (fM ["Leaps"] "inks" (aa 0) (aJ nZ (aj (aa 1) (aj (mC (.int 1)) au)))))
def tG:List D->aq->Res D:=bI 2 vO
abbrev Mg(Pr:Program)(w:World)(K:Frag)(mg:Str->Option Value)(base:Heap):Prop:=rF Pr w K mg base "Leaps" ["self","look"] 2 (vSp K mg [.v,.s] (rV K) tG)
theorem QkG(h:uE K mg "Leaps" "Leaps.__init__" Ds)
  (B:b7 mg)
  (NK:bJ K=true)
  (d:KC K mg "Leaps" "look")
  (a:KC K mg "Leaps" "inks")
  (g:Mf Pr w K mg base):
  Mg Pr w K mg base:=by
 refine Jm (k:=1) (b:=vO) h QkF (λ_ _ _ _ _ _=>bh λ_=>bh λ_=>b8 rfl) [.v,.s] [] cA (λ_ _ _ _=>Rp.non) (body:=λf i A outer s H E c P=>?_);refine aL ?_ ?_;refine jO (dC d dB) (az 0) ?_;refine bz ?_;refine rm (ms:=[.s]) (hv:=ux) ye B.list_ ?_;refine aH (aG 1) aD;refine aN ?_;refine jO (dC a dB) (az 0) ?_;refine bz ?_;refine iB g (c.mono (by decide)) ?_;refine aH (aG 1) ?_;refine aH (ao aF) aD
abbrev Dv:Stmt:=top 39
theorem Mh:bH ["look","way"] ["look"] (aY Dv):=by trivial
def vP:MS :=
  (aC (aK 1 (aJ tE (aj (jQ "Leaps" tG (aj (aa 0) au)) au)))
  (aO (bT (aj (ak gIx (aa 1) (mC (.int 0))) (aj (rE (ak gIx (aa 1) (mC (.int 1)))) au)))))
def Dw:List D->aq->Res D:=bI 2 vP
abbrev Mi(Pr:Program)(w:World)(K:Frag)(mg:Str->Option Value)(base:Heap):Prop:=Can Pr w K mg base "shaded_way" ["look"] 8 (vSp K mg [.s] (rV K) Dw)
theorem Qny(d:Def K mg "shaded_way" Dv)
  (B:b7 mg)
  (NK:bJ K=true)
  (c:Ma Pr w K mg base)
  (g:Mg Pr w K mg base):
  Mi Pr w K mg base:=by
 refine cJ (k:=7) (b:=vP) d Mh (λ_ _ _ _ _ _=>bh λ_=>b8 rfl) [.s] [.v] cA (λ_ _ _ _=>Rp.non) (body:=λf h A outer s H E a P=>?_);refine aL ?_ ?_;refine bB (i:=1) Mh.nd rfl (.inl rfl) ?_;refine bM c (a.mono (by decide)) ?_;refine aH ?_ aD;refine ao ?_;refine W2 g (a.mono (by decide)) ?_;refine aH (aG 0) aD;refine aN ?_;refine bG ?_;refine cW 2 ?_;refine aU ?_ ?_;refine bu (ao (az 1)) (ao aF);refine aU ?_ aD;refine bz ?_;refine WQ ?_;refine ao ?_;refine bu (ao (az 1)) (ao aF)
abbrev DK:Stmt:=top 40
theorem Qsm:bH ["look"] ["look"] (aY DK):=by trivial
def vQ:MS :=
  (aO (ak gIx (aJ Dw (aj (aa 0) au)) (mC (.int 1))))
def ju:List D->aq->Res D:=bI 1 vQ
abbrev Mj(Pr:Program)(w:World)(K:Frag)(mg:Str->Option Value)(base:Heap):Prop:=Can Pr w K mg base "shaded" ["look"] 9 (vSp K mg [.s] (rV K) ju)
theorem Qrb(d:Def K mg "shaded" DK)
  (B:b7 mg)
  (NK:bJ K=true)
  (c:Mi Pr w K mg base):
  Mj Pr w K mg base:=by
 refine cJ (k:=8) (b:=vQ) d Qsm (λ_ _ _ _ _ _=>bh λ_=>b8 rfl) [.s] [] cA (λ_ _ _ _=>Rp.non) (body:=λf g A outer s H E a P=>?_);refine aN ?_;refine bG ?_;refine bu ?_ (ao aF);refine ao ?_;refine bM c (a.mono (by decide)) ?_;refine aH (aG 0) aD
abbrev DQ:Stmt:=top 41
theorem p7:bH ["text","pair","told","item","kind"] ["text"] (aY DQ):=by trivial
def Ml:MS :=
  (aC (aK 1 (mC (.tup [.str [46],.str [46]])))
  (aC (aK 2 (bV au))
  (aC (cY (cR (aJ pN (aj (aa 0) au))) (mgN 3) (aC (aK 4 (ak gIx (aa 3) (mC (.int 1))))
  (aC (aX (cB (aB (ak gEq (aa 4) (mC (.str [101,110,100])))) (aB (ak gEq (aa 4) (mC (.str [97,110,101,119]))))) (aO (mG (mC .non))) bc)
  (aC (aX (aB (ak gEq (aa 4) (mC (.str [115,105,103,110])))) (cO 2 (bT (aj (ak gIx (aa 3) (mC (.int 2))) (aj (aJ nP (aj (ak gIx (aa 3) (mC (.int 2))) (aj (ak gIx (aa 1) (mC (.int 0))) au))) (aj (ak gIx (aa 1) (mC (.int 1))) au))))) bc)
  (aK 1 (aJ mL (aj (aa 1) (aj (aa 4) (aj (ak gIx (aa 3) (mC (.int 2))) au)))))))))
  (aO (mIf (aB (ak gEq (aa 1) (mC (.tup [.str [46],.str [46]])))) (aa 2) (mG (mC .non)))))))
def jX:List D->aq->Res D:=bI 5 Ml
abbrev Mm(Pr:Program)(w:World)(K:Frag)(mg:Str->Option Value)(base:Heap):Prop:=Can Pr w K mg base "unshaded" ["text"] 6 (vSp K mg [.s] (rO K) jX)
theorem Qo8(j:Def K mg "unshaded" DQ)
  (B:b7 mg)
  (NK:bJ K=true)
  (c:mq K mg "PLAIN" [[46],[46]])
  (h:Lj Pr w K mg base)
  (g:K9 Pr w K mg base)
  (d:Ln Pr w K mg base):
  Mm Pr w K mg base:=by
 refine cJ (k:=5) (b:=Ml) j p7 (λ_ _ _ _ _ _=>bh λ_=>b8 rfl) [.s] [.v,.o,.v,.v] du (λ_ _ _ _=>.inl ⟨rfl,Rp.non⟩) (body:=λf l A outer s H E a P=>?_);refine aL (bB (i:=1) p7.nd rfl (.inl rfl) (mD (ls:=[[46],[46]]) c)) ?_;refine aL ?_ ?_;refine jH (i:=2) p7.nd rfl (.inl rfl) (dF 0 aD);refine aL ?_ ?_;refine gH rfl ?_ (dg (i:=3) p7.nd rfl (.inl rfl)) ?_;refine nA ?_;refine rn ?_;refine bz ?_;refine iB h (a.mono (by decide)) ?_;refine aH (aG 0) aD;refine aL ?_ ?_;refine bB (i:=4) p7.nd rfl (.inl rfl) ?_;refine bu (ao (az 3)) (ao aF);refine aL ?_ ?_
 refine bN ?_ ?_ bZ;refine eY ?_;refine gD ?_ ?_;refine bj (bw a) (ao (az 4)) (ao (aP [101,110,100])) (aZ _);refine iJ ?_;refine bj (bw a) (ao (az 4)) (ao (aP [97,110,101,119])) (aZ _);refine aN ?_;refine gh (uq lU);refine aL ?_ ?_;refine bN ?_ ?_ bZ;refine bj (bw a) (ao (az 4)) (ao (aP [115,105,103,110])) (aZ _);refine aN ?_;refine jN 2 ?_;refine cW 3 ?_;refine aU ?_ ?_;refine bu (ao (az 3)) (ao aF);refine aU ?_ ?_;refine bM g (a.mono (by decide)) ?_;refine aH ?_ ?_;refine ao ?_;refine bu (ao (az 3)) (ao aF);refine aH ?_ aD;refine ao ?_
 refine bu (ao (az 1)) (ao aF);refine aU ?_ aD;refine bu (ao (az 1)) (ao aF);refine aN ?_;refine bB (i:=1) p7.nd rfl (.inl rfl) ?_;refine bM d (a.mono (by decide)) ?_;refine aH (ao (az 1)) ?_;refine aH (ao (az 4)) ?_;refine aH ?_ aD;refine ao ?_;refine bu (ao (az 3)) (ao aF);refine aN ?_;refine YQ 2 ?_ (uq lU);refine bj (bw a) (ao (az 1)) (ao (mD (ls:=[[46],[46]]) c)) (aZ _)
abbrev Ea:Stmt:=top 43
theorem QmB:bH ["_law_script","_law_k"] ["_law_script","_law_k"] (aY Ea):=by trivial
def vR:MS :=
  (aC (aX (aB (ak gLt (aa 1) (bx bY (aj (aa 0) au)))) (aO (ak gIx (aa 0) (aa 1))) bc)
  (aO (mC (.int 0))))
def lJ:List D->aq->Res D:=bI 2 vR
abbrev Eb(Pr:Program)(w:World)(K:Frag)(mg:Str->Option Value)(base:Heap):Prop:=Can Pr w K mg base "_law_cell_at" ["_law_script","_law_k"] 1 (vSp K mg [.s,.s] (rV K) lJ)
theorem Qmp(a:Def K mg "_law_cell_at" Ea)
  (B:b7 mg)
  (NK:bJ K=true):
  Eb Pr w K mg base:=by
 refine cJ (k:=0) (b:=vR) a QmB (λ_ _ _ _ _ _=>bh λ_=>bh λ_=>b8 rfl) [.s,.s] [] cA (λ_ _ _ _=>Rp.non) (body:=λf c A outer s H E d P=>?_);refine aL ?_ ?_;refine bN ?_ ?_ bZ;refine bj qZ (aG 1) ?_ (aZ _);refine aR ?_;refine dG (ms:=[.s]) (hv:=dI) dH B.len_ ?_;refine aH (aG 0) aD;refine aN ?_;refine bG ?_;refine bu (aG 0) (aG 1);refine aN (bG aF)
abbrev Ed:Stmt:=top 44
theorem n8:bH ["_law_cell","_law_k","_law_rest","_law_turn","_law_number"] ["_law_cell","_law_k"] (aY Ed):=by trivial
def Mp:MS :=
  (aC (aX (aB (ak gGt (aa 0) (ak jJ (mC (.int 10)) (mC (.int 18))))) (aC (aK 2 (mG (aa 0)))
  (aC (cY (lu (aj (aa 1) au)) (mgN 3) (aK 2 (ak gj (aa 2) (ak jJ (mC (.int 10)) (mC (.int 9))))))
  (aO (ak bL (aa 2) (ak jJ (mC (.int 10)) (mC (.int 9))))))) bc)
  (aC (aK 4 (ak aM (ak bL (aa 0) (mC (.int 2147483647))) (mC (.int 7919))))
  (aC (cY (lu (aj (ak aM (aa 1) (mC (.int 2))) au)) (mgN 3) (aK 4 (ak bL (ak aM (ak fc (aa 4) (mC (.int 48271))) (mC (.int 104729))) (mC (.int 2147483629)))))
  (aO (ak gj (ak bL (ak fc (aa 4) (aa 4)) (mC (.int 998244353))) (mC (.int 11)))))))
def dO:List D->aq->Res D:=bI 5 Mp
abbrev Mq(Pr:Program)(w:World)(K:Frag)(mg:Str->Option Value)(base:Heap):Prop:=Can Pr w K mg base "_law_mix" ["_law_cell","_law_k"] 1 (vSp K mg [.s,.s] (rV K) dO)
theorem QqP(a:Def K mg "_law_mix" Ed)
  (B:b7 mg)
  (NK:bJ K=true):
  Mq Pr w K mg base:=by
 refine cJ (k:=0) (b:=Mp) a n8 (λ_ _ _ _ _ _=>bh λ_=>bh λ_=>b8 rfl) [.s,.s] [.v,.v,.v] cA (λ_ _ _ _=>Rp.non) (body:=λf c A outer s H E d P=>?_);refine aL ?_ ?_;refine bN ?_ ?_ bZ;refine bj Wc (aG 0) ?_ (aZ _);refine aR ?_;refine bf xY (ao aF) (ao aF);refine aL ?_ ?_;refine bB (i:=2) n8.nd rfl (.inl rfl) (cP (aG 0));refine aL ?_ ?_;refine gH rfl ?_ (dg (i:=3) n8.nd rfl (.inl rfl)) ?_;refine yo B.range_ ?_;refine aH (aG 1) aD;refine aN ?_;refine bB (i:=2) n8.nd rfl (.inl rfl) ?_;refine bz ?_;refine bf qY (ao (az 2)) ?_;refine aR ?_;refine bf xY (ao aF) (ao aF)
 refine aN ?_;refine bG ?_;refine bz ?_;refine bf d9 (ao (az 2)) ?_;refine aR ?_;refine bf xY (ao aF) (ao aF);refine aL ?_ ?_;refine bB (i:=4) n8.nd rfl (.inl rfl) ?_;refine bz ?_;refine bf cj ?_ (ao aF);refine aR ?_;refine bf d9 (aG 0) (ao aF);refine aL ?_ ?_;refine gH rfl ?_ (dg (i:=3) n8.nd rfl (.inl rfl)) ?_;refine yo B.range_ ?_;refine aH ?_ aD;refine aR ?_;refine bf cj (aG 1) (ao aF);refine aN ?_;refine bB (i:=4) n8.nd rfl (.inl rfl) ?_;refine bz ?_;refine bf d9 ?_ (ao aF);refine aR ?_;refine bf cj ?_ (ao aF);refine aR ?_;refine bf uv (ao (az 4)) (ao aF)
 refine aN ?_;refine bG ?_;refine bz ?_;refine bf qY ?_ (ao aF);refine aR ?_;refine bf d9 ?_ (ao aF);refine aR ?_;refine bf uv (ao (az 4)) (ao (az 4))
abbrev vU:Stmt:=top 45
theorem Mr:bH ["_law_cell","_law_many","_law_step"] ["_law_cell","_law_many"] (aY vU):=by trivial
def vV:MS :=
  (aC (aK 2 (ak gIx (bV (aj (mC (.int 1)) (aj (mC (.int 3)) (aj (mC (.int 5)) (aj (mC (.int 7)) au))))) (ak bL (ak gj (aa 0) (mC (.int 8))) (mC (.int 4)))))
  (aO (ak aM (bV (aj (mC (.str [46])) au)) (eZ (lu (aj (aa 1) au)) 1 [0,2] (mgN 0) iz (ak gIx (mC (.str [97,98,99,100,101,102,103,104])) (ak bL (ak aM (aa 1) (ak fc (aa 0) (aa 2))) (mC (.int 8))))))))
def p8:List D->aq->Res D:=bI 3 vV
abbrev Ms(Pr:Program)(w:World)(K:Frag)(mg:Str->Option Value)(base:Heap):Prop:=Can Pr w K mg base "_law_colours" ["_law_cell","_law_many"] 1 (vSp K mg [.s,.s] (rO K) p8)
theorem QmM(a:Def K mg "_law_colours" vU)
  (B:b7 mg)
  (NK:bJ K=true):
  Ms Pr w K mg base:=by
 refine cJ (k:=0) (b:=vV) a Mr (λ_ _ _ _ _ _=>bh λ_=>bh λ_=>b8 rfl) [.s,.s] [.v] du (λ_ _ _ _=>.inl ⟨rfl,Rp.non⟩) (body:=λf c A outer s H E d P=>?_);refine aL ?_ ?_;refine bB (i:=2) Mr.nd rfl (.inr rfl) ?_;refine bu ?_ ?_;refine aR ?_;refine dF 4 ?_;refine aU aF ?_;refine aU aF ?_;refine aU aF ?_;refine aU aF aD;refine aR ?_;refine bf d9 ?_ (ao aF);refine aR ?_;refine bf qY (aG 0) (ao aF);refine aN ?_;refine gh ?_;refine bf cj ?_ ?_;refine aR ?_;refine dF 1 ?_;refine aU (aP [46]) aD;refine aR ?_;refine oX (aY vU) ["_law_cell","_law_many","_law_step"] ["_law_k"] [0,2] rfl ?_ (λ_ _ _ _ P=>?_) (λ_ _ _ _ P=>?_) (λ_ _ _ _ P=>?_)
 refine ur ?_;refine yo B.range_ ?_;refine aH (aG 1) aD;exact dg (i:=0) (show(cu ["_law_cell","_law_many","_law_step"] ["_law_k"] [0,2]).Nodup by decide +kernel) rfl (.inl rfl);exact qX;refine bu (ao (aP [97,98,99,100,101,102,103,104])) ?_;refine aR ?_;refine bf d9 ?_ (ao aF);refine aR ?_;refine bf cj (aG 1) ?_;refine aR ?_;refine bf uv (ao (az 0)) (ao (az 2))
abbrev Eh:Stmt:=top 46
theorem Mt:bH ["_law_some"] [] (aY Eh):=by trivial
def Mu:MS :=
  (aC (aK 0 (mC (.str [32,33,34,35,36,38,39,40,41,42,43,44,45,46,47,48,49,50,51,52,53,54,55,56,57,58,59,60,61,62,63,64,65,66,67,68,69,70,71,72,73,74,75,76,77,78,79,80,81,82,83,84,85,86,87,88,89,90])))
  (aO (ak aM (aa 0) (mC (.str [91,92,93,94,95,96,97,98,99,100,101,102,103,104,105,106,107,108,109,110,111,112,113,114,115,116,117,118,119,120,121,122,123,124,125])))))
def vW:List D->aq->Res D:=bI 1 Mu
abbrev Mv(Pr:Program)(w:World)(K:Frag)(mg:Str->Option Value)(base:Heap):Prop:=Can Pr w K mg base "_law_signs" [] 1 (vSp K mg [] (rV K) vW)
theorem Qn3(a:Def K mg "_law_signs" Eh)
  (B:b7 mg)
  (NK:bJ K=true):
  Mv Pr w K mg base:=by
 refine cJ (k:=0) (b:=Mu) a Mt (λ_ _ _ _ _ _=>b8 rfl) [] [.v] cA (λ_ _ _ _=>Rp.non) (body:=λf c A outer s H E d P=>?_);refine aL (bB (i:=0) Mt.nd rfl (.inl rfl) (aP [32,33,34,35,36,38,39,40,41,42,43,44,45,46,47,48,49,50,51,52,53,54,55,56,57,58,59,60,61,62,63,64,65,66,67,68,69,70,71,72,73,74,75,76,77,78,79,80,81,82,83,84,85,86,87,88,89,90])) ?_;refine aN ?_;refine bG ?_;refine bz ?_;refine bf cj (ao (az 0)) (ao (aP [91,92,93,94,95,96,97,98,99,100,101,102,103,104,105,106,107,108,109,110,111,112,113,114,115,116,117,118,119,120,121,122,123,124,125]))
abbrev Ej:Stmt:=top 47
theorem fW:bH ["_law_script","_law_head","_law_inks","_law_grounds","_law_shown_here","_law_ink","_law_ground","_law_cell","_law_pick","_law_sign","_law_seen"] ["_law_script"] (aY Ej):=by trivial
def vX:MS :=
  (aC (aK 1 (aJ lJ (aj (aa 0) (aj (mC (.int 0)) au))))
  (aC (aK 2 (aJ p8 (aj (aJ dO (aj (aa 1) (aj (mC (.int 1)) au))) (aj (ak gIx (bV (aj (mC (.int 3)) (aj (mC (.int 3)) (aj (mC (.int 1)) (aj (mC (.int 8)) au))))) (ak bL (aa 1) (mC (.int 4)))) au))))
  (aC (aK 3 (aJ p8 (aj (aJ dO (aj (aa 1) (aj (mC (.int 2)) au))) (aj (ak gIx (bV (aj (mC (.int 2)) (aj (mC (.int 1)) (aj (mC (.int 1)) (aj (mC (.int 8)) au))))) (ak bL (aa 1) (mC (.int 4)))) au))))
  (aC (aK 4 (bV au))
  (aC (aK 5 (mC (.str [46])))
  (aC (aK 6 (mC (.str [46])))
  (aC (cY (cR (mSl (aa 0) (moS (mC (.int 2))) (moS (ak aM (mC (.int 2)) (ak gIx (bV (aj (mC (.int 20)) (aj (mC (.int 20)) (aj (mC (.int 20)) (aj (mC (.int 5)) au))))) (ak bL (aa 1) (mC (.int 4)))))))) (mgN 7) (aC (aX (aB (ak gEq (ak bL (aJ dO (aj (aa 7) (aj (mC (.int 3)) au))) (mC (.int 3))) (mC (.int 0)))) (aK 5 (ak gIx (aa 2) (ak bL (aJ dO (aj (aa 7) (aj (mC (.int 4)) au))) (bx bY (aj (aa 2) au))))) bc)
  (aC (aX (aB (ak gEq (ak bL (aJ dO (aj (aa 7) (aj (mC (.int 5)) au))) (mC (.int 4))) (mC (.int 0)))) (aK 6 (ak gIx (aa 3) (ak bL (aJ dO (aj (aa 7) (aj (mC (.int 6)) au))) (bx bY (aj (aa 3) au))))) bc)
  (aC (aK 8 (aJ dO (aj (aa 7) (aj (mC (.int 7)) au))))
  (aC (aK 9 (ak gIx (mC (.str [32,97,120,91,65,93,47,46,98,90,32,91,123,125,104])) (ak bL (ak gj (aa 8) (mC (.int 3))) (mC (.int 15)))))
  (aC (aX (aB (ak gEq (ak bL (aa 8) (mC (.int 3))) (mC (.int 2)))) (aK 9 (ak gIx (aJ vW au) (ak bL (ak gj (aa 8) (mC (.int 3))) (mC (.int 93))))) bc)
  (aC (aK 10 (bT (aj (aa 9) (aj (ak gIx (bV (aj (aa 5) (aj (mC (.str [46])) au))) (bx jL (aj (ak gEq (aa 9) (mC (.str [32]))) au))) (aj (aa 6) au)))))
  (aK 4 (ak aM (aa 4) (ak fc (bV (aj (aa 10) au)) (ak aM (mC (.int 1)) (ak bL (aJ dO (aj (aa 7) (aj (mC (.int 8)) au))) (ak gIx (bV (aj (mC (.int 1)) (aj (mC (.int 1)) (aj (mC (.int 10)) (aj (mC (.int 1)) au))))) (ak bL (aa 1) (mC (.int 4))))))))))))))))
  (aO (aa 4)))))))))
def tH:List D->aq->Res D:=bI 11 vX
abbrev Mw(Pr:Program)(w:World)(K:Frag)(mg:Str->Option Value)(base:Heap):Prop:=Can Pr w K mg base "_law_look" ["_law_script"] 2 (vSp K mg [.s] (rV K) tH)
theorem Qpa(j:Def K mg "_law_look" Ej)
  (B:b7 mg)
  (NK:bJ K=true)
  (g:Eb Pr w K mg base)
  (d:Ms Pr w K mg base)
  (c:Mq Pr w K mg base)
  (h:Mv Pr w K mg base):
  Mw Pr w K mg base:=by
 refine cJ (k:=1) (b:=vX) j fW (λ_ _ _ _ _ _=>bh λ_=>b8 rfl) [.s] [.v,.v,.v,.v,.v,.v,.v,.v,.v,.v] cA (λ_ _ _ _=>Rp.non) (body:=λf l A outer s H E a P=>?_);refine aL ?_ ?_;refine bB (i:=1) fW.nd rfl (.inl rfl) ?_;refine bM g (a.mono (by decide)) ?_;refine aH (aG 0) ?_;refine aH (ao aF) aD;refine aL ?_ ?_;refine bB (i:=2) fW.nd rfl (.inl rfl) ?_;refine bz ?_;refine iB d (a.mono (by decide)) ?_;refine aH ?_ ?_;refine ao ?_;refine bM c (a.mono (by decide)) ?_;refine aH (ao (az 1)) ?_;refine aH (ao aF) aD;refine aH ?_ aD;refine ao ?_;refine bu ?_ ?_
 refine aR ?_;refine dF 4 ?_;refine aU aF ?_;refine aU aF ?_;refine aU aF ?_;refine aU aF aD;refine aR ?_;refine bf d9 (ao (az 1)) (ao aF);refine aL ?_ ?_;refine bB (i:=3) fW.nd rfl (.inl rfl) ?_;refine bz ?_;refine iB d (a.mono (by decide)) ?_;refine aH ?_ ?_;refine ao ?_;refine bM c (a.mono (by decide)) ?_;refine aH (ao (az 1)) ?_;refine aH (ao aF) aD;refine aH ?_ aD;refine ao ?_;refine bu ?_ ?_;refine aR ?_;refine dF 4 ?_;refine aU aF ?_;refine aU aF ?_;refine aU aF ?_;refine aU aF aD;refine aR ?_;refine bf d9 (ao (az 1)) (ao aF);refine aL ?_ ?_
 refine bB (i:=4) fW.nd rfl (.inl rfl) ?_;refine bz (dF 0 aD);refine aL (bB (i:=5) fW.nd rfl (.inl rfl) (aP [46])) ?_;refine aL (bB (i:=6) fW.nd rfl (.inl rfl) (aP [46])) ?_;refine aL ?_ ?_;refine gH rfl ?_ (dg (i:=7) fW.nd rfl (.inl rfl)) ?_;refine nA ?_;refine rn ?_;refine bz ?_;refine kY (aG 0) (fj aF) ?_;refine fj ?_;refine bz ?_;refine bf cj (ao aF) ?_;refine ao ?_;refine bu ?_ ?_;refine aR ?_;refine dF 4 ?_;refine aU aF ?_;refine aU aF ?_;refine aU aF ?_;refine aU aF aD;refine aR ?_;refine bf d9 (ao (az 1)) (ao aF);refine aL ?_ ?_;refine bN ?_ ?_ bZ
 refine bj (bw a) ?_ (ao aF) (aZ _);refine aR ?_;refine bf d9 ?_ (ao aF);refine ao ?_;refine bM c (a.mono (by decide)) ?_;refine aH (ao (az 7)) ?_;refine aH (ao aF) aD;refine aN ?_;refine bB (i:=5) fW.nd rfl (.inl rfl) ?_;refine bu (ao (az 2)) ?_;refine aR ?_;refine bf d9 ?_ ?_;refine ao ?_;refine bM c (a.mono (by decide)) ?_;refine aH (ao (az 7)) ?_;refine aH (ao aF) aD;refine aR ?_;refine dG (ms:=[.s]) (hv:=dI) dH B.len_ ?_;refine aH (ao (az 2)) aD;refine aL ?_ ?_;refine bN ?_ ?_ bZ;refine bj (bw a) ?_ (ao aF) (aZ _);refine aR ?_;refine bf d9 ?_ (ao aF)
 refine ao ?_;refine bM c (a.mono (by decide)) ?_;refine aH (ao (az 7)) ?_;refine aH (ao aF) aD;refine aN ?_;refine bB (i:=6) fW.nd rfl (.inl rfl) ?_;refine bu (ao (az 3)) ?_;refine aR ?_;refine bf d9 ?_ ?_;refine ao ?_;refine bM c (a.mono (by decide)) ?_;refine aH (ao (az 7)) ?_;refine aH (ao aF) aD;refine aR ?_;refine dG (ms:=[.s]) (hv:=dI) dH B.len_ ?_;refine aH (ao (az 3)) aD;refine aL ?_ ?_;refine bB (i:=8) fW.nd rfl (.inl rfl) ?_;refine bM c (a.mono (by decide)) ?_;refine aH (ao (az 7)) ?_;refine aH (ao aF) aD;refine aL ?_ ?_;refine bB (i:=9) fW.nd rfl (.inl rfl) ?_
 refine bu (ao (aP [32,97,120,91,65,93,47,46,98,90,32,91,123,125,104])) ?_;refine aR ?_;refine bf d9 ?_ (ao aF);refine aR ?_;refine bf qY (ao (az 8)) (ao aF);refine aL ?_ ?_;refine bN ?_ ?_ bZ;refine bj (bw a) ?_ (ao aF) (aZ _);refine aR ?_;refine bf d9 (ao (az 8)) (ao aF);refine aN ?_;refine bB (i:=9) fW.nd rfl (.inl rfl) ?_;refine bu (ao (Xd h (a.mono (by decide)))) ?_;refine aR ?_;refine bf d9 ?_ (ao aF);refine aR ?_;refine bf qY (ao (az 8)) (ao aF);refine aL ?_ ?_;refine bB (i:=10) fW.nd rfl (.inl rfl) ?_;refine cW 3 ?_;refine aU (az 9) ?_
 refine aU ?_ ?_;refine bu ?_ ?_;refine aR ?_;refine dF 2 ?_;refine aU (az 5) ?_;refine aU (aP [46]) aD;refine aR ?_;refine rm (ms:=[.s]) (hv:=Je) Jd B.int_ ?_;refine aH ?_ aD;refine aR ?_;refine ig (bw a) (ao (az 9)) (ao (aP [32])) (aZ _);refine aU (az 6) aD;refine aN ?_;refine bB (i:=4) fW.nd rfl (.inl rfl) ?_;refine bz ?_;refine bf cj (ao (az 4)) ?_;refine aR ?_;refine bf uv ?_ ?_;refine aR ?_;refine dF 1 ?_;refine aU (az 10) aD;refine aR ?_;refine bf cj (ao aF) ?_;refine aR ?_;refine bf d9 ?_ ?_;refine ao ?_;refine bM c (a.mono (by decide)) ?_
 refine aH (ao (az 7)) ?_;refine aH (ao aF) aD;refine ao ?_;refine bu ?_ ?_;refine aR ?_;refine dF 4 ?_;refine aU aF ?_;refine aU aF ?_;refine aU aF ?_;refine aU aF aD;refine aR ?_;refine bf d9 (ao (az 1)) (ao aF);refine aN (bG (az 4))
abbrev Em:Stmt:=top 48
theorem Qle:bH ["_law_text"] ["_law_text"] (aY Em):=by trivial
def En:MS :=
  (aO (iu (ak gEq (bx bY (aj (aa 0) au)) (mC (.int 1))) (ak (gIn false) (aa 0) (mC (.str [97,98,99,100,101,102,103,104,46])))))
def eV:List D->aq->Res D:=bI 1 En
abbrev Mx(Pr:Program)(w:World)(K:Frag)(mg:Str->Option Value)(base:Heap):Prop:=Can Pr w K mg base "_law_is_colour" ["_law_text"] 1 (vSp K mg [.s] (rV K) eV)
theorem Qk3(c:Def K mg "_law_is_colour" Em)
  (B:b7 mg)
  (NK:bJ K=true):
  Mx Pr w K mg base:=by
 refine cJ (k:=0) (b:=En) c Qle (λ_ _ _ _ _ _=>bh λ_=>b8 rfl) [.s] [] cA (λ_ _ _ _=>Rp.non) (body:=λf d A outer s H E a P=>?_);refine aN ?_;refine bG ?_;refine kJ ?_ ?_;refine bz ?_;refine ig (bw a) ?_ (ao aF) (aZ _);refine aR ?_;refine dG (ms:=[.s]) (hv:=dI) dH B.len_ ?_;refine aH (aG 0) aD;refine oU ?_;refine bz ?_;refine ig Jc (aG 0) (ao (aP [97,98,99,100,101,102,103,104,46])) (by with_unfolding_all rfl)
abbrev Ep:Stmt:=top 49
theorem vZ:bH ["_law_text","_law_found","_law_at"] ["_law_text"] (aY Ep):=by trivial
def v7:MS :=
  (aC (aK 1 (bV au))
  (aC (aK 2 (mC (.int 0)))
  (aC (iK wF (aB (ak gLt (aa 2) (bx bY (aj (aa 0) au)))) (aC (aX (aB (ak gEq (mSl (aa 0) (moS (aa 2)) (moS (ak aM (aa 2) (mC (.int 2))))) (mC (.str [91,91])))) (cO 1 (bT (aj (mC (.str [115,105,103,110])) (aj (mC (.str [91])) (aj (mC (.int 2)) au))))) (aX (aB (ak gEq (mSl (aa 0) (moS (aa 2)) (moS (ak aM (aa 2) (mC (.int 2))))) (mC (.str [91,93])))) (cO 1 (bT (aj (mC (.str [112,108,97,105,110])) (aj (mC (.str [])) (aj (mC (.int 2)) au))))) (aX (cD (aB (ak gEq (ak gIx (aa 0) (aa 2)) (mC (.str [91])))) (cD (bW (aJ eV (aj (mSl (aa 0) (moS (ak aM (aa 2) (mC (.int 1)))) (moS (ak aM (aa 2) (mC (.int 2))))) au))) (aB (ak gEq (mSl (aa 0) (moS (ak aM (aa 2) (mC (.int 2)))) (moS (ak aM (aa 2) (mC (.int 3))))) (mC (.str [93])))))) (cO 1 (bT (aj (mC (.str [105,110,107])) (aj (ak gIx (aa 0) (ak aM (aa 2) (mC (.int 1)))) (aj (mC (.int 3)) au))))) (aX (cD (aB (ak gEq (mSl (aa 0) (moS (aa 2)) (moS (ak aM (aa 2) (mC (.int 2))))) (mC (.str [91,47])))) (cD (bW (aJ eV (aj (mSl (aa 0) (moS (ak aM (aa 2) (mC (.int 2)))) (moS (ak aM (aa 2) (mC (.int 3))))) au))) (aB (ak gEq (mSl (aa 0) (moS (ak aM (aa 2) (mC (.int 3)))) (moS (ak aM (aa 2) (mC (.int 4))))) (mC (.str [93])))))) (cO 1 (bT (aj (mC (.str [103,114,111,117,110,100])) (aj (ak gIx (aa 0) (ak aM (aa 2) (mC (.int 2)))) (aj (mC (.int 4)) au))))) (cO 1 (bT (aj (uG (rJ (mj (mC (.str [10])) (mC (.str [101,110,100])) (mj (mC (.str [9])) (mC (.str [97,110,101,119])) rH))) (ak gIx (aa 0) (aa 2)) (mC (.str [115,105,103,110]))) (aj (ak gIx (aa 0) (aa 2)) (aj (mC (.int 1)) au)))))))))
  (aK 2 (ak aM (aa 2) (ak gIx (ak gIx (aa 1) (mUn lW (mC (.int 1)))) (mC (.int 2)))))))
  (aO (aa 1)))))
def Er:List D->aq->Res D:=bI 3 v7
abbrev Mz(Pr:Program)(w:World)(K:Frag)(mg:Str->Option Value)(base:Heap):Prop:=Can Pr w K mg base "_law_read" ["_law_text"] 2 (vSp K mg [.s] (rO K) Er)
theorem Qo4(d:Def K mg "_law_read" Ep)
  (B:b7 mg)
  (NK:bJ K=true)
  (c:Mx Pr w K mg base):
  Mz Pr w K mg base:=by
 refine cJ (k:=1) (b:=v7) d vZ (λ_ _ _ _ _ _=>bh λ_=>b8 rfl) [.s] [.o,.v] du (λ_ _ _ _=>.inl ⟨rfl,Rp.non⟩) (body:=λf g A outer s H E a P=>?_);refine aL ?_ ?_;refine jH (i:=1) vZ.nd rfl (.inl rfl) (dF 0 aD);refine aL (bB (i:=2) vZ.nd rfl (.inl rfl) aF) ?_;refine aL ?_ (aN (oW 1));refine xU wF ?_ ?_;refine bj qZ (ao (az 2)) ?_ (aZ _);refine aR ?_;refine dG (ms:=[.s]) (hv:=dI) dH B.len_ ?_;refine aH (aG 0) aD;refine aL ?_ ?_;refine bN ?_ ?_ ?_;refine bj (bw a) ?_ (ao (aP [91,91])) (aZ _);refine aR ?_;refine kY (aG 0) (fj (az 2)) ?_;refine fj ?_
 refine bz ?_;refine bf cj (ao (az 2)) (ao aF);refine aN ?_;refine jN 1 ?_;refine cW 3 ?_;refine aU (aP [115,105,103,110]) ?_;refine aU (aP [91]) ?_;refine aU aF aD;refine aN ?_;refine bN ?_ ?_ ?_;refine bj (bw a) ?_ (ao (aP [91,93])) (aZ _);refine aR ?_;refine kY (aG 0) (fj (az 2)) ?_;refine fj ?_;refine bz ?_;refine bf cj (ao (az 2)) (ao aF);refine aN ?_;refine jN 1 ?_;refine cW 3 ?_;refine aU (aP [112,108,97,105,110]) ?_;refine aU (aP []) ?_;refine aU aF aD;refine aN ?_;refine bN ?_ ?_ ?_;refine eY ?_;refine gw ?_ ?_;refine bj (bw a) ?_ (ao (aP [91])) (aZ _)
 refine ao ?_;refine bu (aG 0) (ao (az 2));refine gw ?_ ?_;refine eQ ?_;refine ao ?_;refine bM c (a.mono (by decide)) ?_;refine aH ?_ aD;refine aR ?_;refine kY (aG 0) ?_ ?_;refine fj ?_;refine bz ?_;refine bf cj (ao (az 2)) (ao aF);refine fj ?_;refine bz ?_;refine bf cj (ao (az 2)) (ao aF);refine oR ?_;refine bj (bw a) ?_ (ao (aP [93])) (aZ _);refine aR ?_;refine kY (aG 0) ?_ ?_;refine fj ?_;refine bz ?_;refine bf cj (ao (az 2)) (ao aF);refine fj ?_;refine bz ?_;refine bf cj (ao (az 2)) (ao aF);refine aN ?_;refine jN 1 ?_;refine cW 3 ?_
 refine aU (aP [105,110,107]) ?_;refine aU ?_ ?_;refine bu (aG 0) ?_;refine aR ?_;refine bf cj (ao (az 2)) (ao aF);refine aU aF aD;refine aN ?_;refine bN ?_ ?_ ?_;refine eY ?_;refine gw ?_ ?_;refine bj (bw a) ?_ (ao (aP [91,47])) (aZ _);refine aR ?_;refine kY (aG 0) (fj (az 2)) ?_;refine fj ?_;refine bz ?_;refine bf cj (ao (az 2)) (ao aF);refine gw ?_ ?_;refine eQ ?_;refine ao ?_;refine bM c (a.mono (by decide)) ?_;refine aH ?_ aD;refine aR ?_;refine kY (aG 0) ?_ ?_;refine fj ?_;refine bz ?_;refine bf cj (ao (az 2)) (ao aF);refine fj ?_
 refine bz ?_;refine bf cj (ao (az 2)) (ao aF);refine oR ?_;refine bj (bw a) ?_ (ao (aP [93])) (aZ _);refine aR ?_;refine kY (aG 0) ?_ ?_;refine fj ?_;refine bz ?_;refine bf cj (ao (az 2)) (ao aF);refine fj ?_;refine bz ?_;refine bf cj (ao (az 2)) (ao aF);refine aN ?_;refine jN 1 ?_;refine cW 3 ?_;refine aU (aP [103,114,111,117,110,100]) ?_;refine aU ?_ ?_;refine bu (aG 0) ?_;refine aR ?_;refine bf cj (ao (az 2)) (ao aF);refine aU aF aD;refine aN ?_;refine jN 1 ?_;refine cW 3 ?_;refine aU ?_ ?_;refine Xb a ?_ ?_ (aP [115,105,103,110]);refine Xa ?_
 refine Ju (aP [10]) (aP [101,110,100]) ?_;refine Ju (aP [9]) (aP [97,110,101,119]) W9;refine bu (aG 0) (ao (az 2));refine aU ?_ ?_;refine bu (aG 0) (ao (az 2));refine aU aF aD;refine aN ?_;refine bB (i:=2) vZ.nd rfl (.inl rfl) ?_;refine bz ?_;refine bf cj (ao (az 2)) ?_;refine ao ?_;refine bu ?_ (ao aF);refine ao ?_;refine bu (aG 1) ?_;refine aR ?_;refine xZ (ao aF)
abbrev Et:Stmt:=top 50
theorem jw:bH ["_law_items","_law_shown_here","_law_ink","_law_ground","_law_kind","_law_value","_law_size"] ["_law_items"] (aY Et):=by trivial
def v9:MS :=
  (aC (aK 1 (bV au))
  (aC (aK 2 (mC (.str [46])))
  (aC (aK 3 (mC (.str [46])))
  (aC (cY (cR (aa 0)) (gG 3 (cX (mgN 4) (cX (mgN 5) (cX (mgN 6) iw)))) (aC (aX (cB (aB (ak gEq (aa 4) (mC (.str [101,110,100])))) (aB (ak gEq (aa 4) (mC (.str [97,110,101,119]))))) (aO (mG (mC .non))) bc)
  (aC (aX (aB (ak gEq (aa 4) (mC (.str [115,105,103,110])))) (cO 1 (bT (aj (aa 5) (aj (ak gIx (bV (aj (aa 2) (aj (mC (.str [46])) au))) (bx jL (aj (ak gEq (aa 5) (mC (.str [32]))) au))) (aj (aa 3) au))))) bc)
  (aC (aX (aB (ak gEq (aa 4) (mC (.str [105,110,107])))) (aK 2 (aa 5)) bc)
  (aC (aX (aB (ak gEq (aa 4) (mC (.str [103,114,111,117,110,100])))) (aK 3 (aa 5)) bc)
  (aX (aB (ak gEq (aa 4) (mC (.str [112,108,97,105,110])))) (aC (aK 2 (mC (.str [46])))
  (aK 3 (mC (.str [46])))) bc))))))
  (aC (aX (cB (aB (ak gNe (aa 2) (mC (.str [46])))) (aB (ak gNe (aa 3) (mC (.str [46]))))) (aO (mG (mC .non))) bc)
  (aO (aa 1)))))))
def Eu:List D->aq->Res D:=bI 7 v9
abbrev MF(Pr:Program)(w:World)(K:Frag)(mg:Str->Option Value)(base:Heap):Prop:=Can Pr w K mg base "_law_shown" ["_law_items"] 1 (vSp K mg [.s] (rO K) Eu)
theorem QoA(c:Def K mg "_law_shown" Et)
  (B:b7 mg)
  (NK:bJ K=true):
  MF Pr w K mg base:=by
 refine cJ (k:=0) (b:=v9) c jw (λ_ _ _ _ _ _=>bh λ_=>b8 rfl) [.s] [.o,.v,.v,.v,.v,.v] du (λ_ _ _ _=>.inl ⟨rfl,Rp.non⟩) (body:=λf d A outer s H E a P=>?_);refine aL ?_ ?_;refine jH (i:=1) jw.nd rfl (.inl rfl) (dF 0 aD);refine aL (bB (i:=2) jw.nd rfl (.inl rfl) (aP [46])) ?_;refine aL (bB (i:=3) jw.nd rfl (.inl rfl) (aP [46])) ?_;refine aL ?_ ?_;refine gH rfl (nA (o8 0)) ?_ ?_;refine qW 3 rfl ?_;refine iy (dg (i:=4) jw.nd rfl (.inl rfl)) ?_;refine iy (dg (i:=5) jw.nd rfl (.inl rfl)) ?_;refine iy (dg (i:=6) jw.nd rfl (.inl rfl)) qU;refine aL ?_ ?_
 refine bN ?_ ?_ bZ;refine eY ?_;refine gD ?_ ?_;refine bj (bw a) (ao (az 4)) (ao (aP [101,110,100])) (aZ _);refine iJ ?_;refine bj (bw a) (ao (az 4)) (ao (aP [97,110,101,119])) (aZ _);refine aN ?_;refine gh (uq lU);refine aL ?_ ?_;refine bN ?_ ?_ bZ;refine bj (bw a) (ao (az 4)) (ao (aP [115,105,103,110])) (aZ _);refine aN ?_;refine jN 1 ?_;refine cW 3 ?_;refine aU (az 5) ?_;refine aU ?_ ?_;refine bu ?_ ?_;refine aR ?_;refine dF 2 ?_;refine aU (az 2) ?_;refine aU (aP [46]) aD;refine aR ?_;refine rm (ms:=[.s]) (hv:=Je) Jd B.int_ ?_;refine aH ?_ aD
 refine aR ?_;refine ig (bw a) (ao (az 5)) (ao (aP [32])) (aZ _);refine aU (az 3) aD;refine aL ?_ ?_;refine bN ?_ ?_ bZ;refine bj (bw a) (ao (az 4)) (ao (aP [105,110,107])) (aZ _);refine aN (bB (i:=2) jw.nd rfl (.inl rfl) (az 5));refine aL ?_ ?_;refine bN ?_ ?_ bZ;refine bj (bw a) (ao (az 4)) (ao (aP [103,114,111,117,110,100])) (aZ _);refine aN (bB (i:=3) jw.nd rfl (.inl rfl) (az 5));refine aN ?_;refine bN ?_ ?_ bZ;refine bj (bw a) (ao (az 4)) (ao (aP [112,108,97,105,110])) (aZ _);refine aL (bB (i:=2) jw.nd rfl (.inl rfl) (aP [46])) ?_;refine aN (bB (i:=3) jw.nd rfl (.inl rfl) (aP [46]))
 refine aL ?_ (aN (oW 1));refine bN ?_ ?_ bZ;refine eY ?_;refine gD ?_ ?_;refine bj (m9 a) (ao (az 2)) (ao (aP [46])) (aZ _);refine iJ ?_;refine bj (m9 a) (ao (az 3)) (ao (aP [46])) (aZ _);refine aN ?_;refine gh (uq lU)
abbrev Ex:Stmt:=top 52
theorem Ey:bH ["_law_found","_law_due","_law_one","_law_other"] ["_law_found","_law_due"] (aY Ex):=by trivial
def wg:MS :=
  (aC (aX (cB (dw (bW (gk "list" (aa 0)))) (aB (ak gNe (bx bY (aj (aa 0) au)) (bx bY (aj (aa 1) au))))) (aO (mC (.bl false))) bc)
  (aC (cY (rM (aa 0) (aa 1)) (gG 2 (cX (mgN 2) (cX (mgN 3) iw))) (aX (cB (dw (bW (gk "tuple" (aa 2)))) (cB (aB (ak gNe (bx bY (aj (aa 2) au)) (mC (.int 3)))) (aB (ak gNe (aa 2) (aa 3))))) (aO (mC (.bl false))) bc))
  (aO (mC (.bl true)))))
def jZ:List D->aq->Res D:=bI 4 wg
abbrev MJ(Pr:Program)(w:World)(K:Frag)(mg:Str->Option Value)(base:Heap):Prop:=Can Pr w K mg base "_law_same_look" ["_law_found","_law_due"] 1 (vSp K mg [.s,.s] (rV K) jZ)
theorem Qk2(c:Def K mg "_law_same_look" Ex)
  (B:b7 mg)
  (NK:bJ K=true):
  MJ Pr w K mg base:=by
 refine cJ (k:=0) (b:=wg) c Ey (λ_ _ _ _ _ _=>bh λ_=>bh λ_=>b8 rfl) [.s,.s] [.v,.v] cA (λ_ _ _ _=>Rp.non) (body:=λf d A outer s H E a P=>?_);refine aL ?_ ?_;refine bN ?_ ?_ bZ;refine eY ?_;refine gD ?_ ?_;refine jF ?_;refine eQ ?_;refine aR (o7 "list" (hb:=ux) B.isinstance_ B.list_ (aG 0));refine iJ ?_;refine bj (m9 a) ?_ ?_ (aZ _);refine aR ?_;refine dG (ms:=[.s]) (hv:=dI) dH B.len_ ?_;refine aH (aG 0) aD;refine aR ?_;refine dG (ms:=[.s]) (hv:=dI) dH B.len_ ?_;refine aH (aG 1) aD;refine aN (bG gZ);refine aL ?_ ?_;refine gH rfl ?_ ?_ ?_
 refine Xi B.zip_ (o8 0) (o8 1);refine qW 2 rfl ?_;refine iy (dg (i:=2) Ey.nd rfl (.inl rfl)) ?_;refine iy (dg (i:=3) Ey.nd rfl (.inl rfl)) qU;refine aN ?_;refine bN ?_ ?_ bZ;refine eY ?_;refine gD ?_ ?_;refine jF ?_;refine eQ ?_;refine aR ?_;refine o7 "tuple" (hb:=Wq) B.isinstance_ B.tuple_ (ao (az 2));refine gD ?_ ?_;refine bj (m9 a) ?_ (ao aF) (aZ _);refine aR ?_;refine dG (ms:=[.s]) (hv:=dI) dH B.len_ ?_;refine aH (ao (az 2)) aD;refine iJ ?_;refine bj (m9 a) (ao (az 2)) (ao (az 3)) (aZ _);refine aN (bG gZ);refine aN (bG gZ)
abbrev EY:Stmt:=top 53
theorem tK:bH ["_law_text","_law_shown_here","_law_items","_law_kind","_law_value","_law_size"] ["_law_text","_law_shown_here"] (aY EY):=by trivial
def wj:MS :=
  (aC (aX (dw (bW (gk "str" (aa 0)))) (aO (mC (.bl false))) bc)
  (aC (aK 2 (aJ Er (aj (aa 0) au)))
  (aC (cY (cR (aa 2)) (gG 3 (cX (mgN 3) (cX (mgN 4) (cX (mgN 5) iw)))) (aX (cD (aB (ak gEq (aa 3) (mC (.str [115,105,103,110])))) (cD (aB (ak gEq (aa 4) (mC (.str [91])))) (aB (ak gNe (aa 5) (mC (.int 2)))))) (aO (mC (.bl false))) bc))
  (aO (ak gEq (aJ Eu (aj (aa 2) au)) (aa 1))))))
def oh:List D->aq->Res D:=bI 6 wj
abbrev MK(Pr:Program)(w:World)(K:Frag)(mg:Str->Option Value)(base:Heap):Prop:=Can Pr w K mg base "_law_text_right" ["_law_text","_law_shown_here"] 3 (vSp K mg [.s,.s] (rV K) oh)
theorem QkD(g:Def K mg "_law_text_right" EY)
  (B:b7 mg)
  (NK:bJ K=true)
  (d:Mz Pr w K mg base)
  (c:MF Pr w K mg base):
  MK Pr w K mg base:=by
 refine cJ (k:=2) (b:=wj) g tK (λ_ _ _ _ _ _=>bh λ_=>bh λ_=>b8 rfl) [.s,.s] [.v,.v,.v,.v] cA (λ_ _ _ _=>Rp.non) (body:=λf h A outer s H E a P=>?_);refine aL ?_ ?_;refine bN ?_ ?_ bZ;refine jF ?_;refine eQ ?_;refine aR (o7 "str" (hb:=uw) B.isinstance_ B.str_ (aG 0));refine aN (bG gZ);refine aL ?_ ?_;refine bB (i:=2) tK.nd rfl (.inl rfl) ?_;refine bz ?_;refine iB d (a.mono (by decide)) ?_;refine aH (aG 0) aD;refine aL ?_ ?_;refine gH rfl ?_ ?_ ?_;refine nA (rn (az 2));refine qW 3 rfl ?_;refine iy (dg (i:=3) tK.nd rfl (.inl rfl)) ?_;refine iy (dg (i:=4) tK.nd rfl (.inl rfl)) ?_
 refine iy (dg (i:=5) tK.nd rfl (.inl rfl)) qU;refine aN ?_;refine bN ?_ ?_ bZ;refine eY ?_;refine gw ?_ ?_;refine bj (bw a) (ao (az 3)) (ao (aP [115,105,103,110])) (aZ _);refine gw ?_ ?_;refine bj (bw a) (ao (az 4)) (ao (aP [91])) (aZ _);refine oR ?_;refine bj (m9 a) (ao (az 5)) (ao aF) (aZ _);refine aN (bG gZ);refine aN ?_;refine bG ?_;refine bz ?_;refine ig (bw a) ?_ (aG 1) (aZ _);refine aR ?_;refine iB c (a.mono (by decide)) ?_;refine aH (ao (az 2)) aD
abbrev j0:Stmt:=top 54
theorem qd:bH ["_law_script","_law_shown_here","_law_handed","_law_text","_law_found","_law_some"] ["_law_script"] (aY j0):=by trivial
def wk:MS :=
  (aC (aK 1 (aJ tH (aj (aa 0) au)))
  (aC (aK 2 (bx kZ (aj (aa 1) au)))
  (aC (aK 3 (aJ ju (aj (aa 2) au)))
  (aC (aX (cB (aB (ak gNe (aa 2) (aa 1))) (dw (bW (aJ oh (aj (aa 3) (aj (aa 1) au)))))) (aO (mC (.bl false))) bc)
  (aC (uD 2)
  (aC (aK 4 (aJ jX (aj (aa 3) au)))
  (aC (aX (dw (bW (aJ jZ (aj (aa 4) (aj (aa 1) au))))) (aO (mC (.bl false))) bc)
  (aC (cO 4 (bT (aj (mC (.str [120])) (aj (mC (.str [46])) (aj (mC (.str [46])) au)))))
  (aC (aK 5 (mSl (aa 1) moN (moS (ak bL (aJ lJ (aj (aa 0) (aj (mC (.int 1)) au))) (ak aM (bx bY (aj (aa 1) au)) (mC (.int 1)))))))
  (aC (aX (cB (dw (bW (aJ oh (aj (aJ ju (aj (aa 5) au)) (aj (aa 5) au))))) (dw (bW (aJ jZ (aj (aJ jX (aj (aJ ju (aj (aa 5) au)) au)) (aj (aa 5) au)))))) (aO (mC (.bl false))) bc)
  (aO (iu (ak gEq (aJ ju (aj (bx kZ (aj (aa 1) au)) au)) (aa 3)) (aJ jZ (aj (aJ jX (aj (aa 3) au)) (aj (aa 1) au)))))))))))))))
def MN:List D->aq->Res D:=bI 6 wk
abbrev Qy9(Pr:Program)(w:World)(K:Frag)(mg:Str->Option Value)(base:Heap):Prop:=Can Pr w K mg base "law" ["_law_script"] 10 (vSp K mg [.s] (rV K) MN)
theorem QwE(m:Def K mg "law" j0)
  (B:b7 mg)
  (NK:bJ K=true)
  (l:Mw Pr w K mg base)
  (c:Mj Pr w K mg base)
  (h:MK Pr w K mg base)
  (g:Mm Pr w K mg base)
  (d:MJ Pr w K mg base)
  (j:Eb Pr w K mg base):
  Qy9 Pr w K mg base:=by
 refine cJ (k:=9) (b:=wk) m qd (λ_ _ _ _ _ _=>bh λ_=>b8 rfl) [.s] [.v,.o,.v,.o,.v] cA (λ_ _ _ _=>Rp.non) (body:=λf n A outer s H E a P=>?_);refine aL ?_ ?_;refine bB (i:=1) qd.nd rfl (.inl rfl) ?_;refine bM l (a.mono (by decide)) ?_;refine aH (aG 0) aD;refine aL ?_ ?_;refine jH (i:=2) qd.nd rfl (.inl rfl) ?_;refine rm (ms:=[.s]) (hv:=ux) ye B.list_ ?_;refine aH (ao (az 1)) aD;refine aL ?_ ?_;refine bB (i:=3) qd.nd rfl (.inl rfl) ?_;refine bM c (a.mono (by decide)) ?_;refine aH (aG 2) aD;refine aL ?_ ?_;refine bN ?_ ?_ bZ;refine eY ?_;refine gD ?_ ?_
 refine bj (m9 a) (aG 2) (ao (az 1)) (aZ _);refine iJ ?_;refine jF ?_;refine eQ ?_;refine ao ?_;refine bM h (a.mono (by decide)) ?_;refine aH (ao (az 3)) ?_;refine aH (ao (az 1)) aD;refine aN (bG gZ);refine aL (W0 2) ?_;refine aL ?_ ?_;refine jH (i:=4) qd.nd rfl (.inl rfl) ?_;refine iB g (a.mono (by decide)) ?_;refine aH (ao (az 3)) aD;refine aL ?_ ?_;refine bN ?_ ?_ bZ;refine jF ?_;refine eQ ?_;refine ao ?_;refine bM d (a.mono (by decide)) ?_;refine aH (aG 4) ?_;refine aH (ao (az 1)) aD;refine aN (bG gZ);refine aL ?_ ?_;refine jN 4 ?_
 refine cW 3 ?_;refine aU (aP [120]) ?_;refine aU (aP [46]) ?_;refine aU (aP [46]) aD;refine aL ?_ ?_;refine bB (i:=5) qd.nd rfl (.inl rfl) ?_;refine bz ?_;refine kY (ao (az 1)) Wk ?_;refine fj ?_;refine bz ?_;refine bf d9 ?_ ?_;refine ao ?_;refine bM j (a.mono (by decide)) ?_;refine aH (aG 0) ?_;refine aH (ao aF) aD;refine aR ?_;refine bf cj ?_ (ao aF);refine aR ?_;refine dG (ms:=[.s]) (hv:=dI) dH B.len_ ?_;refine aH (ao (az 1)) aD;refine aL ?_ ?_;refine bN ?_ ?_ bZ;refine eY ?_;refine gD ?_ ?_;refine jF ?_;refine eQ ?_;refine ao ?_;refine bM h (a.mono (by decide)) ?_
 refine aH ?_ ?_;refine ao ?_;refine bM c (a.mono (by decide)) ?_;refine aH (ao (az 5)) aD;refine aH (ao (az 5)) aD;refine iJ ?_;refine jF ?_;refine eQ ?_;refine ao ?_;refine bM d (a.mono (by decide)) ?_;refine aH ?_ ?_;refine aR ?_;refine iB g (a.mono (by decide)) ?_;refine aH ?_ aD;refine ao ?_;refine bM c (a.mono (by decide)) ?_;refine aH (ao (az 5)) aD;refine aH (ao (az 5)) aD;refine aN (bG gZ);refine aN ?_;refine bG ?_;refine kJ ?_ ?_;refine bz ?_;refine ig (bw a) ?_ (ao (az 3)) (aZ _);refine ao ?_;refine bM c (a.mono (by decide)) ?_
 refine aH ?_ aD;refine aR ?_;refine rm (ms:=[.s]) (hv:=ux) ye B.list_ ?_;refine aH (ao (az 1)) aD;refine oU ?_;refine bM d (a.mono (by decide)) ?_;refine aH ?_ ?_;refine aR ?_;refine iB g (a.mono (by decide)) ?_;refine aH (ao (az 3)) aD;refine aH (ao (az 1)) aD
end
theorem bD{g:D->D->Option D}{a b:L2.M D}{ρ:aA}{O:aq}{x y z:D}(c:a ρ O=.ok x O)(hb:b ρ O=.ok y O)(h:g (bK O x) (bK O y)=some z):ak g a b ρ O=.ok z O:=by
 rw[pF,c,aV,hb,aV,h,iR]
theorem ma1{a:L2.M D}{ρ:aA}{O:aq}{x:D}(h:a ρ O=.ok x O):aj a au ρ O=.ok [x] O:=by
 rw[nH,h,aV,sr,aV]
theorem maS{a:L2.M D}{r:L2.M (List D)}{ρ:aA}{O:aq}{x:D}{xs:List D}(h:a ρ O=.ok x O)(h2:r ρ O=.ok xs O):aj a r ρ O=.ok (x::xs) O:=by
 rw[nH,h,aV,h2,aV]
theorem qg{m:L2.M (List D)}{ρ:aA}{O:aq}{xs:List D}(h:m ρ O=.ok xs O)(a:xs.length<=1000000):bT m ρ O=.ok (.tup xs) O:=by
 rw[J6,h,aV,if_pos a]
theorem Qz1{m:L2.M (List D)}{ρ:aA}{O:aq}{xs:List D}(h:m ρ O=.ok xs O)(a:xs.length<=1000000):bV m ρ O=.ok (.lst xs) O:=by
 rw[J5,h,aV,if_pos a]
theorem ou{g:List D->Option D}{m:L2.M (List D)}{ρ:aA}{O:aq}{xs:List D}{z:D}(h:m ρ O=.ok xs O)(a:g (xs.map (bK O))=some z):bx g m ρ O=.ok z O:=by
 rw[J7,h,aV,a,iR]
theorem tQ{i:Nat}{m:L2.M D}{ρ:aA}{O:aq}{d:D}{ds:List D}(a:m ρ O=.ok d O)(h:ρ[i]?=some (some (.lst ds)))(b:ds.length<1000000):cO i m ρ O=.nx (ρ.set i (some (.lst (ds++[d])))) O:=by
 rw[Ky,a,Kz h b]
theorem cG{i:Nat}{m:L2.M D}{ρ:aA}{O:aq}{d:D}(h:m ρ O=.ok d O):aK i m ρ O=.nx (ρ.set i (some d)) O:=by
 rw[sG,h,sH]
theorem cF{c:List D->aq->Res D}{a:L2.M (List D)}{ρ:aA}{O:aq}{ds:List D}(h:a ρ O=.ok ds O):aJ c a ρ O=c ds O:=by
 rw[su,h,aV]
theorem fX{m:L2.M D}{ρ:aA}{O:aq}{b:Bool}(h:m ρ O=.ok (.bl b) O):aB m ρ O=.ok b O:=by
 rw[uT,h,aV,uR]
theorem jx{t:L2.M Bool}{a b:MS}{ρ:aA}{O:aq}(h:t ρ O=.ok true O):aX t a b ρ O=a ρ O:=by
 rw[nJ,h,nM,if_pos rfl]
theorem gn{t:L2.M Bool}{a b:MS}{ρ:aA}{O:aq}(h:t ρ O=.ok false O):aX t a b ρ O=b ρ O:=by
 rw[nJ,h,nM,if_neg zf]
theorem oA{m:L2.M D}{ρ:aA}{O:aq}{l:List D}(h:m ρ O=.ok (.lst l) O):bx bY (aj m au) ρ O=.ok (.int (l.length:Int)) O:=ou (ma1 h) rfl
theorem QyH{m:L2.M D}{ρ:aA}{O:aq}{n:Nat}(h:m ρ O=.ok (.int (n:Int)) O)(a:n<=1000000):lu (aj m au) ρ O=.ok (gK 0 n) O:=by
 rw[Y6,ma1 h,aV];show(if(n:Int)<=1000000000/\-1000000000<=(n:Int) then Res.ok (gK 0 (n:Int).toNat) O else .no)=_;rw[if_pos ⟨by omega,by omega⟩,Int.toNat_natCast]
theorem fY{a b:L2.M D}{ρ:aA}{O:aq}{i j:Int}(d:a ρ O=.ok (.int i) O)(hb:b ρ O=.ok (.int j) O)(c:0<j):ak bL a b ρ O=.ok (.int (i % j)) O:=bD d hb (by rw[iT,iT,Zb,if_pos c])
theorem mR{a b:L2.M D}{ρ:aA}{O:aq}{i j:Int}(c:a ρ O=.ok (.int i) O)(hb:b ρ O=.ok (.int j) O):ak aM a b ρ O=.ok (.int (i+j)) O:=bD c hb rfl
theorem QzK{a b:L2.M D}{ρ:aA}{O:aq}{i j:Int}(c:a ρ O=.ok (.int i) O)(hb:b ρ O=.ok (.int j) O):ak m7 a b ρ O=.ok (.int (i - j)) O:=bD c hb rfl
theorem MP{a b:L2.M D}{ρ:aA}{O:aq}{i j:Int}(c:a ρ O=.ok (.int i) O)(hb:b ρ O=.ok (.int j) O):aB (ak gLt a b) ρ O=.ok (decide (i<j)) O:=fX (bD c hb rfl)
theorem qi{a b:L2.M D}{ρ:aA}{O:aq}{i j:Int}(c:a ρ O=.ok (.int i) O)(hb:b ρ O=.ok (.int j) O):aB (ak gEq a b) ρ O=.ok (decide (i=j)) O:=fX (bD c hb rfl)
theorem wy{a:L2.M D}{r:L2.M (List D)}{ρ:aA}{O c b:aq}{x:D}{xs:List D}(h:a ρ O=.ok x c)(h2:r ρ c=.ok xs b):aj a r ρ O=.ok (x::xs) b:=by
 rw[nH,h,aV,h2,aV]
theorem qj{a:L2.M D}{ρ:aA}{O b:aq}{x:D}(h:a ρ O=.ok x b):aj a au ρ O=.ok [x] b:=wy h rfl
theorem wz{m:L2.M D}{ρ:aA}{O a:aq}(h:m ρ O=.ok (.bl true) a):dw (bW m) ρ O=.ok false a:=by
 rw[uU,rZ,h];rfl
theorem Fi{a b:L2.M Bool}{ρ:aA}{O d c:aq}(f:a ρ O=.ok false d)(hb:b ρ d=.ok false c):cB a b ρ O=.ok false c:=by
 rw[iU,f,aV,if_neg zf,hb]
theorem ifN{t:L2.M Bool}{a:MS}{ρ:aA}{O b:aq}(h:t ρ O=.ok false b):aX t a bc ρ O=.nx ρ b:=by
 rw[nJ,h,nM];rfl
theorem ifY{t:L2.M Bool}{a b:MS}{ρ:aA}{O c:aq}(h:t ρ O=.ok true c):aX t a b ρ O=a ρ c:=by
 rw[nJ,h,nM];rfl
theorem qm{c:List D->aq->Res D}{a:L2.M (List D)}{ρ:aA}{O b:aq}{ds:List D}(h:a ρ O=.ok ds b):aJ c a ρ O=c ds b:=by
 rw[su,h,aV]
theorem MT{g:D->D->Option D}{a b:L2.M D}{ρ:aA}{O d c:aq}{x y z:D}(f:a ρ O=.ok x d)(hb:b ρ d=.ok y c)(h:g (bK c x) (bK c y)=some z):ak g a b ρ O=.ok z c:=by
 rw[pF,f,aV,hb,aV,h,iR]
theorem Fj{a b:L2.M Bool}{ρ:aA}{O c:aq}(d:a ρ O=.ok true c)(hb:b ρ c=.ok false c):cD a b ρ O=.ok false c:=by
 rw[fQ,d,aV,if_pos rfl,hb]
theorem M4{g:MG}{b:MS}{d:D}{ds:List D}{ρ ρ1 a:aA}{O c:aq}(f:g d ρ=some ρ1)(hb:b ρ1 O=.nx a c):bO g b (d::ds) ρ O=bO g b ds a c:=by
 conv=>lhs;unfold bO
 rw[f];dsimp only;rw[hb]
def st(c:Nat):D:=.str [c]
def kz(ks:List Nat):List (List Nat):=ks.map λc=>[c]
theorem Fo{ks:List Nat}{c:Nat}:[c]∈kz ks↔c∈ks:=by simp[kz]
theorem M5:∀ks:List Nat,strsT (ks.map st)=some (kz ks)
 | []=>rfl
 |c::ks=>by
  show(strsT (ks.map st)).map ([c] :: ·)=_;rw[M5 ks];rfl
def j4(ks:List Nat):List Nat:=(lA (kz ks)).map λl=>l.headD 0
theorem M6{ks:List Nat}{l:List Nat}(h:l∈kz ks):∃c,l=[c]/\c∈ks:=by
 obtain⟨c,a,rfl⟩:=zz.mp h;exact⟨c,rfl,a⟩
theorem Fp(ks:List Nat):lA (kz ks)=kz (j4 ks):=by
 unfold j4 kz;rw[zO]
 conv=>lhs;rw[<-List.map_id (lA _)]
 refine jm λl a=>?_
 obtain⟨c,rfl,_⟩:=M6 ((uN l _).mp a);rfl
theorem Fq(ks:List Nat)(c:Nat):c∈j4 ks↔c∈ks:=by
 rw[<-Fo,<-Fp,uN,Fo]
theorem M7(ks:List Nat):(j4 ks).Nodup:=by
 have h:=yE (kz ks);rw[Fp] at h;unfold kz at h;rw[List.pairwise_map] at h
 exact h.imp λ{a b} hab e=>by
  subst e;exact List.lt_irrefl _ hab
theorem sub_len{α:Type}[DecidableEq α]:∀(l m:List α),l.Nodup->(∀x∈l,x∈m)->l.length<=m.length
 | [],_,_,_=>Nat.zero_le _
 |x::l,m,h,hs=>by
  obtain⟨h1,h2⟩:=List.nodup_cons.mp h;have b:=hs x zg
  have:=sub_len l (m.erase x) h2 λy a=>(List.mem_erase_of_ne (λe=>h1 (by rw[<-e];exact a))).mpr (hs y (zn _ a))
  rw[List.length_erase_of_mem b] at this;have c:=List.length_pos_of_mem b;rw[zo];omega
theorem Qte{ks M:List Nat}(h:∀c∈ks,c∈M):(j4 ks).length<=M.length:=sub_len _ _ (M7 ks) λc a=>h c ((Fq ks c).mp a)
theorem Qv4{ks M:List Nat}(h:∀c∈ks,c∈M):((kz ks).foldl stepT []).length<=M.length:=by
 have:=sub_len _ (kz M) (yF (kz ks) [] .nil) λl a=>by
  rcases(uP l (kz ks) []).mp a with z | z
  ·cases z
  ·obtain⟨c,rfl,b⟩:=M6 z;exact Fo.mpr (h c b)
 unfold kz at this ⊢
 rwa [ze] at this
theorem Qwk{ks M:List Nat}(h0:ks≠[])(a:ks.length<4000)(h:∀c∈ks,c∈M)(b:M.length<64):rQ [.lst (ks.map st)]=some (.lst ((j4 ks).map st)):=by
 show uQ (.lst (ks.map st))=_;unfold uQ;dsimp only;rw[M5];dsimp only
 have hl':(kz ks).length<4000:=by unfold kz;rw[ze];exact a
 have h0':kz ks≠[]:=λe=>h0 (by unfold kz at e;exact List.map_eq_nil_iff.mp e)
 rw[if_pos ⟨hl',h0',Nat.lt_of_le_of_lt (Qv4 h) b⟩,Fp];unfold kz;rw[zO];rfl
theorem M8{h:List Str}{f c:Str}{g b:L2.M D}{ρ:aA}{O a:aq}{n:Nat}{d:D}{fs:List (Str×D)}(hv:b ρ O=.ok d a)(i:g ρ a=.ok (.ob n) a)(l:a[n]?=some (.ins c fs))(k:c∈h)(j:fs.length<900):
  fM h f g b ρ O=.nx ρ (a.set n (.ins c (putD f d fs))):=by
 rw[Zm,hv,Zn,i];unfold puF;dsimp only;rw[l];dsimp only;rw[if_pos ⟨k,j⟩]
theorem wA{a:List Str}{f c:Str}{m:L2.M D}{ρ:aA}{O:aq}{n:Nat}{y:D}{fs:List (Str×D)}(d:m ρ O=.ok (.ob n) O)(h:O[n]?=some (.ins c fs))(g:c∈a)(b:fs.lookup f=some y):
  dz a f m ρ O=.ok y O:=by
 rw[Zk,d,aV];unfold pI;dsimp only;rw[h];dsimp only;rw[if_pos g,b]
theorem jy{c m:Str}{d:List D->aq->Res D}{a:L2.M D}{b:L2.M (List D)}{ρ:aA}{O:aq}{n:Nat}{ds:List D}{fs:List (Str×D)}(f:a ρ O=.ok (.ob n) O)(i:O[n]?=some (.ins c fs))(g:(fs.lookup m).isNone=true)(h:b ρ O=.ok ds O):
  bQ c m d a b ρ O=d (.ob n::ds) O:=by
 rw[z8,f,aV];unfold meF;dsimp only;rw[i];dsimp only;rw[if_pos ⟨rfl,g⟩,h,aV]
theorem Ft{O:aq}{o:Ob}:(O++[o])[O.length]?=some o:=by
 rw[zK (zc _),Nat.sub_self];rfl
theorem M9{O:aq}{o a:Ob}:(O++[o]).set O.length a=O++[a]:=by
 rw[List.set_append_right _ _ (zc _),Nat.sub_self];rfl
theorem lK{m:L2.M D}{ρ:aA}{O:aq}{l:List D}(h:m ρ O=.ok (.lst l) O):cR m ρ O=.ok l O:=by
 rw[yU,h,aV,Kl,yS]
theorem qp{m:L2.M (List D)}{own:Nat}{cap:List Nat}{g:MG}{t:L2.M Bool}{e:L2.M D}{ρ a:aA}{O b:aq}{ds ys:List D}(h:m ρ O=.ok ds O)(c:ds.length<=1000000)(h0:lV own cap ρ=a)(d:dh g t e ds a O []=.ok ys b):eZ m own cap g t e ρ O=.ok (.lst ys) b:=by
 rw[Y8,h,aV,if_pos c,h0,d,aV]
theorem Nb{m:L2.M D}{ρ:aA}{O:aq}{d:D}{l:List D}(h:m ρ O=.ok d O)(hd:bK O d=.lst l):bx kZ (aj m au) ρ O=.ok (.lst l) O:=by
 rw[J7,ma1 h,aV,zh,zL,hd,Zx,iR]
theorem Qu2{m:L2.M D}{ρ:aA}{O a:aq}{d:D}(h:m ρ O=.ok d a):aO m ρ O=.rt d a:=by rw[eG,h];rfl
theorem mU{a b:L2.M D}{ρ:aA}{O:aq}{c k:Int}(d:a ρ O=.ok (.int c) O)(hb:b ρ O=.ok (.int k) O)(h0:0<=k)(h1:k<=1000000):aJ dO (aj a (aj b au)) ρ O=.ok (.int (mix c k)) O:=by
 rw[cF (maS d (ma1 hb))];exact Zj c k h0 h1 O
theorem gq{a b:MS}{ρ c:aA}{O d:aq}(h:a ρ O=.nx c d):aC a b ρ O=b c d:=by rw[gm,h,lC]
theorem Fv{t:L2.M Bool}{a:MS}{ρ:aA}{O:aq}(h:t ρ O=.ok false O):aX t a bc ρ O=.nx ρ O:=by rw[gn h];rfl
theorem Fw{t:L2.M Bool}{a b:MS}{ρ c:aA}{O d:aq}(h:t ρ O=.ok true O)(f:a ρ O=.nx c d):aX t a b ρ O=.nx c d:=by rw[jx h];exact f
abbrev L3:=Nat×Nat×Nat
def dL(x:L3):D:=.tup [st x.1,st x.2.1,st x.2.2]
def pr(p:Nat×Nat):D:=.tup [st p.1,st p.2]
def sgn(c:Nat):List Nat:=if c=91 then[91,91] else[c]
theorem Qxs(c:Nat)(O:aq):jU [.str bF,st c] O=.ok (.str (sgn c)) O:=by
 unfold sgn
 by_cases h:c=91
 ·subst h;rfl
 ·have e:gEq (.str [c]) (.str [91])=some (.bl false):=by rw[yW,zd (λz=>h (by injection z))]
  rw[if_neg h];show bA (vf [some (.str bF),some (.str [c])] O)=_;unfold vf;rw[gm,jx rfl,eG,nG,fX (bD (x:=.str [c]) (y:=.str [91]) rfl rfl e),aV,if_neg zf];rfl
theorem Qzk(c:Nat)(O:aq):jU [.str dM,st c] O=.ok (.str [91,c,93]) O:=rfl
theorem Qua(c:Nat)(O:aq):jU [.str dX,st c] O=.ok (.str [91,47,c,93]) O:=rfl
theorem Qv3(O:aq):jU [.str iC,.str []] O=.ok (.str [91,93]) O:=rfl
theorem wB(a b:Nat):gEq (st a) (st b)=some (.bl (decide (a=b))):=by
 show some (D.bl (decide ([a]=[b])))=_;rw[show decide ([a]=[b])=decide (a=b) from decide_eq_decide.mpr ⟨λh=>by injection h,λh=>by rw[h]⟩]
theorem add_l{a b:L2.M D}{ρ:aA}{O:aq}{l m:List D}(c:a ρ O=.ok (.lst l) O)(hb:b ρ O=.ok (.lst m) O)(h:l.length+m.length<=1000000):ak aM a b ρ O=.ok (.lst (l++m)) O:=bD c hb (by
 show(if l.length+m.length<=1000000 then some (D.lst (l++m)) else none)=_
 rw[if_pos h])
theorem QyS{x:L3}{i:Nat}{c:Nat}(h:(i=1/\c=x.2.1)\/(i=2/\c=x.2.2)):gIx (dL x) (.int (i:Int))=some (st c):=by
 rcases h with⟨rfl,rfl⟩ | ⟨rfl,rfl⟩<;>rfl
theorem Qyx(l:List L3)(i:Nat)(f:L3->Nat)(k:∀x,(i=1/\f x=x.2.1)\/(i=2/\f x=x.2.2)){M:List Nat}(q:l.length<=1000)(n:M.length<64)(d:46∈M)(h:∀x∈l,f x∈M)(O:aq):
  nZ [.lst (l.map dL),.int (i:Int)] O=.ok (.lst ((j4 (46::l.map f)).map st)) O:=by
 show bA (vN [some (.lst (l.map dL)),some (.int (i:Int))] O)=_;unfold vN
 have c:=sI (g:=mgN 0) (t:=iz) (m:=ak gIx (aa 0) (aa 1)) (λρ=>∃a,ρ=[a,some (.int (i:Int))]) dL (λx=>st (f x)) l [none,some (.int (i:Int))] O [] ⟨_,rfl⟩ (by
  rintro x j ρ ⟨a,rfl⟩
  exact⟨_,rfl,⟨_,rfl⟩,rfl,bD (x:=dL x) (y:=.int (i:Int)) rfl rfl (QyS (k x))⟩)
 rw[zI] at c;have e:=qp (m:=cR (aa 0)) (ρ:=[some (.lst (l.map dL)),some (.int (i:Int))]) (own:=1) (cap:=[1]) (lK (l:=l.map dL) rfl) (by rw[ze];omega) rfl c;rw[eG,ou (ma1 (add_l (l:=[st 46]) rfl e (by rw[ze];show 1+_<=_;omega))) (z:=.lst ((j4 (46::l.map f)).map st)) ?_]
 ·rfl
 ·show rQ [.lst ([st 46]++l.map λx=>st (f x))]=_
  have:=Qwk (ks:=46::l.map f) (M:=M) (by simp) (by rw[zo,ze];omega) (λc b=>by
   rcases zk.mp b with rfl | b
   ·exact d
   ·obtain⟨x,j,rfl⟩:=zz.mp b
    exact h x j) n
  rw[zh,zO] at this;exact this
theorem Nf{α:Type}(l:List α)(a b:Nat):dU l (some (a:Int)) (some (b:Int))=(l.drop a).take (b - a):=by
 unfold dU;rw[HT.sIx_nat,HT.sIx_nat]
 by_cases h:a<=l.length
 ·rw[Nat.min_eq_left h]
  by_cases c:b<=l.length
  ·rw[Nat.min_eq_left c]
  ·rw[Nat.min_eq_right (by omega),List.take_of_length_le (by rw[List.length_drop];omega),List.take_of_length_le (by rw[List.length_drop];omega)]
 ·rw[Nat.min_eq_right (show l.length<=a by omega),List.drop_eq_nil_of_le (show l.length<=l.length by omega),List.drop_eq_nil_of_le (show l.length<=a by omega)];simp
theorem Qxd{α:Type}(l:List α)(b:Nat):dU l none (some (b:Int))=l.take b:=by
 unfold dU;rw[HT.sIx_nat,HT.sIx_none,List.drop_zero,Nat.sub_zero]
 by_cases a:b<=l.length
 ·rw[Nat.min_eq_left a]
 ·rw[Nat.min_eq_right (by omega),List.take_of_length_le (by omega),List.take_of_length_le (by omega)]
@[simp] theorem QCe{a:Nat}:dU [a] none (some 2)=[a]:=rfl
def Ok1(c:Nat):Prop:=col c=true
def OkL(x:L3):Prop:=(32<=x.1/\x.1<=125)/\(x.1=32->x.2.1=46)
theorem Ng(ns:List Int)(k:Nat)(O:aq):lJ [.lst (ns.map D.int),.int k] O=.ok (.int (ns.getD k 0)) O:=by
 by_cases h:k<ns.length
 ·simp[lJ,vR,uW,h]
 ·simp[lJ,vR,h]
theorem qM{L:List Nat}{r:Int}(c:L.length<=1000000)(h0:0<=r)(h1:r<L.length):∃s,gIx (.str L) (.int r)=some (st s)/\s∈L:=by
 obtain⟨x,a,b⟩:=Kq (xs:=L) h0 h1;refine⟨x,?_,b⟩;rw[Kp,if_pos c,a];rfl
theorem Nh{I:List Nat}{r:Int}(h0:0<=r)(h1:r<I.length):∃c,gIx (.lst (I.map st)) (.int r)=some (st c)/\c∈I:=by
 obtain⟨x,a,b⟩:=Kq (xs:=I.map st) h0 (by rw[ze];exact h1);obtain⟨c,d,rfl⟩:=zz.mp b;exact⟨c,a,d⟩
theorem Fx{a b:L2.M D}{ρ:aA}{O:aq}{i j:Int}(f:a ρ O=.ok (.int i) O)(hb:b ρ O=.ok (.int j) O)(d:0<j)(c:j<1073741824):ak gj a b ρ O=.ok (.int (i / j)) O:=bD f hb (by rw[iT,iT,Zc,if_pos ⟨d,c⟩])
theorem Ni(c:Int)(m:Nat)(P:m<=100)(O:aq):∃cols:List Nat,cols.length=m/\(∀x∈cols,Ok1 x)/\p8 [.int c,.int (m:Int)] O=.ok (.lst ((46::cols).map st)) O:=by
 have J:=zS (c / 8) (show(4:Int)≠0 by decide);have I:=zT (c / 8) (show(0:Int)<4 by decide)
 obtain⟨s,C,H,G⟩:∃s:Int,gIx (.lst [.int 1,.int 3,.int 5,.int 7]) (.int (c / 8 % 4))=some (.int s)/\0<=s/\s<=7:=by
  have h:c / 8 % 4=0\/c / 8 % 4=1\/c / 8 % 4=2\/c / 8 % 4=3:=by omega
  rcases h with h | h | h | h<;>rw[h]
  ·exact⟨1,rfl,by decide,by decide⟩
  ·exact⟨3,rfl,by decide,by decide⟩
  ·exact⟨5,rfl,by decide,by decide⟩
  ·exact⟨7,rfl,by decide,by decide⟩
 have u:∀k:Nat,∃x,gIx (.str [97,98,99,100,101,102,103,104]) (.int ((c+(k:Int) * s) % 8))=some (st x)/\Ok1 x:=λk=>by
  obtain⟨x,e,q⟩:=qM (L:=[97,98,99,100,101,102,103,104]) (r:=(c+(k:Int) * s) % 8) (by decide) (zS _ (by decide)) (zT _ (by decide))
  have:∀y∈[97,98,99,100,101,102,103,104],Ok1 y:=by unfold Ok1;decide
  exact⟨x,e,this x q⟩
 have d:∃f:Nat->Nat,∀k:Nat,gIx (.str [97,98,99,100,101,102,103,104]) (.int ((c+(k:Int) * s) % 8))=some (st (f k))/\Ok1 (f k):=⟨λk=>(u k).choose,λk=>(u k).choose_spec⟩;obtain⟨f,d⟩:=d;refine⟨(List.range m).map f,by rw[ze,List.length_range],λx q=>?_,?_⟩
 ·obtain⟨k,_,rfl⟩:=zz.mp q;exact(d k).2
 ·show bA (vV [some (.int c),some (.int (m:Int)),none] O)=_;unfold vV;have B:=cG (i:=2) (bD (g:=gIx) (a:=bV (aj (mC (.int 1)) (aj (mC (.int 3)) (aj (mC (.int 5)) (aj (mC (.int 7)) au))))) (x:=.lst [.int 1,.int 3,.int 5,.int 7]) (ρ:=[some (.int c),some (.int (m:Int)),none]) (O:=O) rfl (fY (j:=4) (Fx (a:=aa 0) (i:=c) (b:=mC (.int 8)) (j:=8) rfl rfl (by decide) (by decide)) (b:=mC (.int 4)) rfl (by decide)) C);rw[gq B]
  have rd:gK 0 m=(List.range m).map λi:Nat=>D.int ((i:Nat):Int):=by unfold gK;simp
  have cl:=sI (g:=mgN 0) (t:=iz) (m:=ak gIx (mC (.str [97,98,99,100,101,102,103,104])) (ak bL (ak aM (aa 1) (ak fc (aa 0) (aa 2))) (mC (.int 8)))) (λρ=>∃a,ρ=[a,some (.int c),some (.int s)]) (λi:Nat=>D.int ((i:Nat):Int)) (λi=>st (f i)) (List.range m) [none,some (.int c),some (.int s)] O [] ⟨_,rfl⟩ (by
   rintro k E ρ ⟨a,rfl⟩;have hk':=List.mem_range.mp E;refine⟨[some (.int (k:Int)),some (.int c),some (.int s)],rfl,⟨_,rfl⟩,rfl,?_⟩
   exact bD (x:=.str [97,98,99,100,101,102,103,104]) rfl (fY (j:=8) (mR (i:=c) (a:=aa 1) rfl (bD (a:=aa 0) (b:=aa 2) (x:=.int (k:Int)) (y:=.int s) rfl rfl (yV (.inl ⟨by omega,by omega⟩)))) (b:=mC (.int 8)) rfl (by decide)) (d k).1)
  rw[zI,<-rd] at cl;have F:=qp (m:=lu (aj (aa 1) au)) (own:=1) (cap:=[0,2]) (ρ:=[some (.int c),some (.int (m:Int)),some (.int s)]) (QyH (n:=m) rfl (by omega)) (by rw[z7];omega) rfl cl;refine(congrArg bA (Qu2 (add_l (a:=bV (aj (mC (.str [46])) au)) (l:=[st 46]) rfl F (by rw[ze,List.length_range];show 1+_<=_;omega)))).trans ?_;show Res.ok (D.lst ([st 46]++(List.range m).map λi=>st (f i))) O=_;rw[zh,zO];rfl
theorem QtH(d:D)(w:Nat)(a:w<=1000):fc (.lst [d]) (.int (w:Int))=some (.lst (List.replicate w d)):=by
 show(if -1000000<(w:Int)/\(w:Int)<1000000/\[d].length * (w:Int).toNat<=1000000 then some (D.lst (List.replicate (w:Int).toNat [d]).flatten) else none)=_;rw[if_pos ⟨by omega,by omega,by simp;omega⟩];simp
def eK(X:D)(h:Int)(I G:List Nat)(l:List L3)(i g:Nat)(d c b a:Option D):aA:=[some X,some (.int h),some (.lst (I.map st)),some (.lst (G.map st)),some (.lst (l.map dL)),some (st i),some (st g),d,c,b,a]
def K1:MS:=aX (aB (ak gEq (ak bL (aJ dO (aj (aa 7) (aj (mC (.int 3)) au))) (mC (.int 3))) (mC (.int 0)))) (aK 5 (ak gIx (aa 2) (ak bL (aJ dO (aj (aa 7) (aj (mC (.int 4)) au))) (bx bY (aj (aa 2) au))))) bc
def K2:MS:=aX (aB (ak gEq (ak bL (aJ dO (aj (aa 7) (aj (mC (.int 5)) au))) (mC (.int 4))) (mC (.int 0)))) (aK 6 (ak gIx (aa 3) (ak bL (aJ dO (aj (aa 7) (aj (mC (.int 6)) au))) (bx bY (aj (aa 3) au))))) bc
def K3:MS:=aK 8 (aJ dO (aj (aa 7) (aj (mC (.int 7)) au)))
def K4:MS:=aK 9 (ak gIx (mC (.str [32,97,120,91,65,93,47,46,98,90,32,91,123,125,104])) (ak bL (ak gj (aa 8) (mC (.int 3))) (mC (.int 15))))
def K5:MS:=aX (aB (ak gEq (ak bL (aa 8) (mC (.int 3))) (mC (.int 2)))) (aK 9 (ak gIx (aJ vW au) (ak bL (ak gj (aa 8) (mC (.int 3))) (mC (.int 93))))) bc
def K6:MS:=aK 10 (bT (aj (aa 9) (aj (ak gIx (bV (aj (aa 5) (aj (mC (.str [46])) au))) (bx jL (aj (ak gEq (aa 9) (mC (.str [32]))) au))) (aj (aa 6) au))))
def K7:MS:=aK 4 (ak aM (aa 4) (ak fc (bV (aj (aa 10) au)) (ak aM (mC (.int 1)) (ak bL (aJ dO (aj (aa 7) (aj (mC (.int 8)) au))) (ak gIx (bV (aj (mC (.int 1)) (aj (mC (.int 1)) (aj (mC (.int 10)) (aj (mC (.int 1)) au))))) (ak bL (aa 1) (mC (.int 4))))))))
def wC:MS:=aC K1 (aC K2 (aC K3 (aC K4 (aC K5 (aC K6 K7)))))
def sgs:List Nat:=[32,33,34,35,36,38,39,40,41,42,43,44,45,46,47,48,49,50,51,52,53,54,55,56,57,58,59,60,61,62,63,64,65,66,67,68,69,70,71,72,73,74,75,76,77,78,79,80,81,82,83,84,85,86,87,88,89,90,91,92,93,94,95,96,97,98,99,100,101,102,103,104,105,106,107,108,109,110,111,112,113,114,115,116,117,118,119,120,121,122,123,124,125]
theorem Qt9(O:aq):vW [] O=.ok (.str sgs) O:=rfl
theorem Qx8:∀c∈sgs,32<=c/\c<=125:=by decide
theorem Qwj{X:D}{h:Int}{I G:List Nat}{M:Nat}(hI:I≠[])(hG:G≠[])(hM:gIx (.lst [.int 1,.int 1,.int 10,.int 1]) (.int (h % 4))=some (.int (M:Int)))(hM0:0<M)(hM1:M<=10)(l:List L3)(hl:l.length<=1000)(i g:Nat)(hi:i∈I)(hg:g∈G)(T:46∈I)(c:Int)(u q d:Option D)(O:aq):
  ∃f g' x m W U P,f∈I/\g'∈G/\OkL x/\x.2.1∈I/\x.2.2∈G/\m<=M/\wC (eK X h I G l i g (some (.int c)) u q d) O=.nx (eK X h I G (l++List.replicate m x) f g' (some (.int c)) W U P) O:=by
 have il:(0:Int)<I.length:=by have:=List.length_pos_iff.mpr hI;omega
 have gl:(0:Int)<G.length:=by have:=List.length_pos_iff.mpr hG;omega
 obtain⟨f,F,e1⟩:∃f,f∈I/\K1 (eK X h I G l i g (some (.int c)) u q d) O=.nx (eK X h I G l f g (some (.int c)) u q d) O:=by
  have t:aB (ak gEq (ak bL (aJ dO (aj (aa 7) (aj (mC (.int 3)) au))) (mC (.int 3))) (mC (.int 0))) (eK X h I G l i g (some (.int c)) u q d) O=.ok (decide (mix c 3 % 3=0)) O:=qi (fY (j:=3) (mU (c:=c) (k:=3) rfl rfl (by decide) (by decide)) rfl (by decide)) rfl
  by_cases B:mix c 3 % 3=0
  ·rw[zl B] at t;obtain⟨x,ex,C⟩:=Nh (I:=I) (r:=mix c 4 % (I.length:Int)) (zS _ (by omega)) (zT _ il);have ll:=oA (m:=aa 2) (ρ:=eK X h I G l i g (some (.int c)) u q d) (O:=O) (l:=I.map st) rfl;rw[ze] at ll;exact⟨x,C,Fw t (cG (i:=5) (ρ:=eK X h I G l i g (some (.int c)) u q d) (bD (x:=.lst (I.map st)) rfl (fY (mU (c:=c) (k:=4) rfl rfl (by decide) (by decide)) ll il) ex))⟩
  ·rw[zd B] at t;exact⟨i,hi,Fv t⟩
 obtain⟨g',H,e2⟩:∃g',g'∈G/\K2 (eK X h I G l f g (some (.int c)) u q d) O=.nx (eK X h I G l f g' (some (.int c)) u q d) O:=by
  have t:aB (ak gEq (ak bL (aJ dO (aj (aa 7) (aj (mC (.int 5)) au))) (mC (.int 4))) (mC (.int 0))) (eK X h I G l f g (some (.int c)) u q d) O=.ok (decide (mix c 5 % 4=0)) O:=qi (fY (j:=4) (mU (c:=c) (k:=5) rfl rfl (by decide) (by decide)) rfl (by decide)) rfl
  by_cases B:mix c 5 % 4=0
  ·rw[zl B] at t;obtain⟨x,ex,C⟩:=Nh (I:=G) (r:=mix c 6 % (G.length:Int)) (zS _ (by omega)) (zT _ gl);have ll:=oA (m:=aa 3) (ρ:=eK X h I G l f g (some (.int c)) u q d) (O:=O) (l:=G.map st) rfl;rw[ze] at ll;exact⟨x,C,Fw t (cG (i:=6) (ρ:=eK X h I G l f g (some (.int c)) u q d) (bD (x:=.lst (G.map st)) rfl (fY (mU (c:=c) (k:=6) rfl rfl (by decide) (by decide)) ll gl) ex))⟩
  ·rw[zd B] at t;exact⟨g,hg,Fv t⟩
 have e3:K3 (eK X h I G l f g' (some (.int c)) u q d) O=.nx (eK X h I G l f g' (some (.int c)) (some (.int (mix c 7))) q d) O:=cG (i:=8) (ρ:=eK X h I G l f g' (some (.int c)) u q d) (mU (c:=c) (k:=7) rfl rfl (by decide) (by decide))
 obtain⟨s,Z,e4⟩:∃s,(32<=s/\s<=125)/\K4 (eK X h I G l f g' (some (.int c)) (some (.int (mix c 7))) q d) O=.nx (eK X h I G l f g' (some (.int c)) (some (.int (mix c 7))) (some (st s)) d) O:=by
  obtain⟨x,ex,C⟩:=qM (L:=[32,97,120,91,65,93,47,46,98,90,32,91,123,125,104]) (r:=mix c 7 / 3 % 15) (by decide) (zS _ (by decide)) (zT _ (by decide))
  have ok:∀y∈[32,97,120,91,65,93,47,46,98,90,32,91,123,125,104],32<=y/\y<=125:=by decide
  exact⟨x,ok x C,cG (i:=9) (ρ:=eK X h I G l f g' (some (.int c)) (some (.int (mix c 7))) q d) (bD (x:=.str [32,97,120,91,65,93,47,46,98,90,32,91,123,125,104]) rfl (fY (j:=15) (Fx (j:=3) (i:=mix c 7) rfl rfl (by decide) (by decide)) rfl (by decide)) ex)⟩
 obtain⟨n,R,e5⟩:∃n,(32<=n/\n<=125)/\K5 (eK X h I G l f g' (some (.int c)) (some (.int (mix c 7))) (some (st s)) d) O=.nx (eK X h I G l f g' (some (.int c)) (some (.int (mix c 7))) (some (st n)) d) O:=by
  have t:aB (ak gEq (ak bL (aa 8) (mC (.int 3))) (mC (.int 2))) (eK X h I G l f g' (some (.int c)) (some (.int (mix c 7))) (some (st s)) d) O=.ok (decide (mix c 7 % 3=2)) O:=qi (fY (j:=3) (i:=mix c 7) rfl rfl (by decide)) rfl
  by_cases B:mix c 7 % 3=2
  ·rw[zl B] at t;obtain⟨x,ex,C⟩:=qM (L:=sgs) (r:=mix c 7 / 3 % 93) (by decide) (zS _ (by decide)) (zT _ (by decide));exact⟨x,Qx8 x C,Fw t (cG (i:=9) (ρ:=eK X h I G l f g' (some (.int c)) (some (.int (mix c 7))) (some (st s)) d) (bD (x:=.str sgs) (by rw[cF (ds:=[]) rfl];exact Qt9 O) (fY (j:=93) (Fx (j:=3) (i:=mix c 7) rfl rfl (by decide) (by decide)) rfl (by decide)) ex))⟩
  ·rw[zd B] at t;exact⟨s,Z,Fv t⟩
 obtain⟨j,hj,J,e6⟩:∃j,j∈I/\(n=32->j=46)/\K6 (eK X h I G l f g' (some (.int c)) (some (.int (mix c 7))) (some (st n)) d) O=.nx (eK X h I G l f g' (some (.int c)) (some (.int (mix c 7))) (some (st n)) (some (dL (n,j,g')))) O:=by
  have ll:bV (aj (aa 5) (aj (mC (.str [46])) au)) (eK X h I G l f g' (some (.int c)) (some (.int (mix c 7))) (some (st n)) d) O=.ok (.lst [st f,st 46]) O:=rfl;have Q:=bD (a:=aa 9) (b:=mC (.str [32])) (g:=gEq) (x:=st n) (y:=st 32) (ρ:=eK X h I G l f g' (some (.int c)) (some (.int (mix c 7))) (some (st n)) d) (O:=O) rfl rfl (wB n 32)
  by_cases E:n=32
  ·rw[zl E] at Q;exact⟨46,T,λ_=>rfl,cG (i:=10) (ρ:=eK X h I G l f g' (some (.int c)) (some (.int (mix c 7))) (some (st n)) d) (qg (maS (x:=st n) rfl (maS (x:=st 46) (bD ll (ou (ma1 Q) (z:=.int 1) rfl) rfl) (ma1 (x:=st g') rfl))) (show(3:Nat)<=1000000 by decide))⟩
  ·rw[zd E] at Q;exact⟨f,F,λz=>absurd z E,cG (i:=10) (ρ:=eK X h I G l f g' (some (.int c)) (some (.int (mix c 7))) (some (st n)) d) (qg (maS (x:=st n) rfl (maS (x:=st f) (bD ll (ou (ma1 Q) (z:=.int 0) rfl) rfl) (ma1 (x:=st g') rfl))) (show(3:Nat)<=1000000 by decide))⟩
 have y0:=zS (mix c 8) (show(M:Int)≠0 by omega);have y1:=zT (mix c 8) (show(0:Int)<(M:Int) by omega);obtain⟨m,hm⟩:∃m:Nat,(m:Int)=1+mix c 8 % (M:Int):=⟨(1+mix c 8 % (M:Int)).toNat,by omega⟩;refine⟨f,g',(n,j,g'),m,some (.int (mix c 7)),some (st n),some (dL (n,j,g')),F,H,⟨R,J⟩,hj,H,by omega,?_⟩;unfold wC;rw[gq e1,gq e2,gq e3,gq e4,gq e5,gq e6]
 have Y:ak aM (mC (.int 1)) (ak bL (aJ dO (aj (aa 7) (aj (mC (.int 8)) au))) (ak gIx (bV (aj (mC (.int 1)) (aj (mC (.int 1)) (aj (mC (.int 10)) (aj (mC (.int 1)) au))))) (ak bL (aa 1) (mC (.int 4))))) (eK X h I G l f g' (some (.int c)) (some (.int (mix c 7))) (some (st n)) (some (dL (n,j,g')))) O=.ok (.int (m:Int)) O:=by
  rw[hm];exact mR (i:=1) rfl (fY (mU (c:=c) (k:=8) rfl rfl (by decide) (by decide)) (bD (x:=.lst [.int 1,.int 1,.int 10,.int 1]) rfl (fY (j:=4) (i:=h) rfl rfl (by decide)) hM) (by omega))
 have ml:ak fc (bV (aj (aa 10) au)) (ak aM (mC (.int 1)) (ak bL (aJ dO (aj (aa 7) (aj (mC (.int 8)) au))) (ak gIx (bV (aj (mC (.int 1)) (aj (mC (.int 1)) (aj (mC (.int 10)) (aj (mC (.int 1)) au))))) (ak bL (aa 1) (mC (.int 4)))))) (eK X h I G l f g' (some (.int c)) (some (.int (mix c 7))) (some (st n)) (some (dL (n,j,g')))) O=.ok (.lst (List.replicate m (dL (n,j,g')))) O:=bD (x:=.lst [dL (n,j,g')]) rfl Y (QtH _ m (by omega));refine(cG (i:=4) (ρ:=eK X h I G l f g' (some (.int c)) (some (.int (mix c 7))) (some (st n)) (some (dL (n,j,g')))) (add_l (a:=aa 4) (l:=l.map dL) rfl ml (by rw[ze,List.length_replicate];omega))).trans ?_
 rw[<-List.map_replicate,<-zW];rfl
theorem Qxy{m a b:L2.M D}{ρ:aA}{O:aq}{l:List D}{x y:Nat}(c:m ρ O=.ok (.lst l) O)(d:a ρ O=.ok (.int (x:Int)) O)(hb:b ρ O=.ok (.int (y:Int)) O):mSl m (moS a) (moS b) ρ O=.ok (.lst ((l.drop x).take (y - x))) O:=by
 rw[yQ,c,aV,uV,d,aV];show Res.bind (Res.ok (some (x:Int)) O) _=_;rw[aV,uV,hb,aV];show Res.bind (Res.ok (some (y:Int)) O) _=_;rw[aV,nD,J9,iR,Nf]
structure Lk(l:List L3)(MI MG:List Nat):Prop where
 ll:l.length<=200
 lo:∀x∈l,OkL x
 i46:46∈MI
 g46:46∈MG
 il:MI.length<=6
 gl:MG.length<=6
 io:∀c∈MI,Ok1 c
 go:∀c∈MG,Ok1 c
 xi:∀x∈l,x.2.1∈MI
 xg:∀x∈l,x.2.2∈MG
theorem QAK:Ok1 46:=by unfold Ok1;decide
theorem qt{cols:List Nat}(h:∀x∈cols,Ok1 x):∀x∈46::cols,Ok1 x:=λx a=>by
 rcases zk.mp a with rfl | a
 ·exact QAK
 ·exact h x a
theorem QyG(xs:List Int)(O:aq):∃l MI MG,Lk l MI MG/\tH [.lst (xs.map D.int)] O=.ok (.lst (l.map dL)) O:=by
 have W:=Ng xs 0 O
 generalize xs.getD 0 0=h at W
 have y0:=zS h (show(4:Int)≠0 by decide);have y1:=zT h (show(0:Int)<4 by decide)
 obtain⟨a,b,t,M,ga,gb,gt,gM,hM0,hM1,htM,hab,ha,hb⟩:∃a b t M:Nat,gIx (.lst [.int 3,.int 3,.int 1,.int 8]) (.int (h % 4))=some (.int (a:Int))/\gIx (.lst [.int 2,.int 1,.int 1,.int 8]) (.int (h % 4))=some (.int (b:Int))/\gIx (.lst [.int 20,.int 20,.int 20,.int 5]) (.int (h % 4))=some (.int (t:Int))/\gIx (.lst [.int 1,.int 1,.int 10,.int 1]) (.int (h % 4))=some (.int (M:Int))/\0<M/\M<=10/\t * M<=200/\((a<=3/\b<=3)\/t * M<=5)/\a<=100/\b<=100:=by
  have h4:h % 4=0\/h % 4=1\/h % 4=2\/h % 4=3:=by omega
  rcases h4 with h4 | h4 | h4 | h4<;>rw[h4]
  ·exact⟨3,2,20,1,rfl,rfl,rfl,rfl,by decide,by decide,by decide,by decide,by decide,by decide⟩
  ·exact⟨3,1,20,1,rfl,rfl,rfl,rfl,by decide,by decide,by decide,by decide,by decide,by decide⟩
  ·exact⟨1,1,20,10,rfl,rfl,rfl,rfl,by decide,by decide,by decide,by decide,by decide,by decide⟩
  ·exact⟨8,8,5,1,rfl,rfl,rfl,rfl,by decide,by decide,by decide,by decide,by decide,by decide⟩
 obtain⟨n,l1,o1,e1⟩:=Ni (mix h 1) a ha O;obtain⟨B,l2,o2,e2⟩:=Ni (mix h 2) b hb O;obtain⟨X,hX⟩:∃X,X=D.lst (xs.map D.int):=⟨_,rfl⟩;rw[<-hX] at W ⊢;have s1:aK 1 (aJ lJ (aj (aa 0) (aj (mC (.int 0)) au))) [some X,none,none,none,none,none,none,none,none,none,none] O=.nx [some X,some (.int h),none,none,none,none,none,none,none,none,none] O:=cG (i:=1) (ρ:=[some X,none,none,none,none,none,none,none,none,none,none]) (by rw[cF (ds:=[X,.int 0]) rfl];exact W)
 have s2:aK 2 (aJ p8 (aj (aJ dO (aj (aa 1) (aj (mC (.int 1)) au))) (aj (ak gIx (bV (aj (mC (.int 3)) (aj (mC (.int 3)) (aj (mC (.int 1)) (aj (mC (.int 8)) au))))) (ak bL (aa 1) (mC (.int 4)))) au))) [some X,some (.int h),none,none,none,none,none,none,none,none,none] O=.nx [some X,some (.int h),some (.lst ((46::n).map st)),none,none,none,none,none,none,none,none] O:=cG (i:=2) (ρ:=[some X,some (.int h),none,none,none,none,none,none,none,none,none]) (by
  rw[cF (maS (mU (c:=h) (k:=1) rfl rfl (by decide) (by decide)) (ma1 (bD (x:=.lst [.int 3,.int 3,.int 1,.int 8]) rfl (fY (i:=h) (j:=4) rfl rfl (by decide)) ga)))]
  exact e1)
 have s3:aK 3 (aJ p8 (aj (aJ dO (aj (aa 1) (aj (mC (.int 2)) au))) (aj (ak gIx (bV (aj (mC (.int 2)) (aj (mC (.int 1)) (aj (mC (.int 1)) (aj (mC (.int 8)) au))))) (ak bL (aa 1) (mC (.int 4)))) au))) [some X,some (.int h),some (.lst ((46::n).map st)),none,none,none,none,none,none,none,none] O=.nx [some X,some (.int h),some (.lst ((46::n).map st)),some (.lst ((46::B).map st)),none,none,none,none,none,none,none] O:=cG (i:=3) (ρ:=[some X,some (.int h),some (.lst ((46::n).map st)),none,none,none,none,none,none,none,none]) (by
  rw[cF (maS (mU (c:=h) (k:=2) rfl rfl (by decide) (by decide)) (ma1 (bD (x:=.lst [.int 2,.int 1,.int 1,.int 8]) rfl (fY (i:=h) (j:=4) rfl rfl (by decide)) gb)))]
  exact e2)
 have it:cR (mSl (aa 0) (moS (mC (.int 2))) (moS (ak aM (mC (.int 2)) (ak gIx (bV (aj (mC (.int 20)) (aj (mC (.int 20)) (aj (mC (.int 20)) (aj (mC (.int 5)) au))))) (ak bL (aa 1) (mC (.int 4))))))) (eK X h (46::n) (46::B) [] 46 46 none none none none) O=.ok (((xs.drop 2).take t).map D.int) O:=by
  refine lK ?_
  have:=Qxy (m:=aa 0) (a:=mC (.int 2)) (x:=2) (y:=2+t) (ρ:=eK X h (46::n) (46::B) [] 46 46 none none none none) (O:=O) (l:=xs.map D.int) (by rw[hX];rfl) rfl (mR (a:=mC (.int 2)) (i:=2) rfl (bD (g:=gIx) (a:=bV (aj (mC (.int 20)) (aj (mC (.int 20)) (aj (mC (.int 20)) (aj (mC (.int 5)) au))))) (x:=.lst [.int 20,.int 20,.int 20,.int 5]) rfl (fY (i:=h) (j:=4) (a:=aa 1) (b:=mC (.int 4)) rfl rfl (by decide)) gt))
  rw[show 2+t - 2=t by omega,<-List.map_drop,<-List.map_take] at this;exact this
 generalize hcl:(xs.drop 2).take t=cl at it
 have J:cl.length<=t:=by rw[<-hcl,List.length_take];exact Nat.min_le_left _ _
 obtain⟨ρ',T,ef,hO,l,i,g,Y,R,Q,H,u,F,hi,hg,C,E,Z⟩:=pG (g:=mgN 7) (b:=wC)
  (λk ρ T=>T=O/\∃(l:List L3) (i g:Nat) (Y R Q H:Option D),(k<=t->l.length<=k * M)/\(∀x∈l,OkL x)/\i∈46::n/\g∈46::B/\(∀x∈l,x.2.1∈46::n)/\(∀x∈l,x.2.2∈46::B)/\ρ=eK X h (46::n) (46::B) l i g Y R Q H) (cl.map D.int) 0 (eK X h (46::n) (46::B) [] 46 46 none none none none) O
  ⟨rfl,[],46,46,none,none,none,none,λ_=>Nat.zero_le _,λx f=>(nomatch f),zg,zg,λx f=>(nomatch f),λx f=>(nomatch f),rfl⟩ (by
  rintro k d ρ T hk ⟨rfl,l,i,g,Y,R,Q,H,u,F,hi,hg,C,E,rfl⟩;rw[zZ] at u ⊢;obtain⟨c,_,rfl⟩:=zz.mp (zH hk)
  have hkt:k<t:=by have:=(zq.mp hk).1;rw[ze] at this;omega
  have h1:=u (by omega);have h2:k * M<=t * M:=Nat.mul_le_mul (by omega) (zc _);obtain⟨i',g',x,m,a8',a9',a10',hi',hg',hx1,hx2,hx3,hm,eb⟩:=Qwj (X:=X) (h:=h) (I:=46::n) (G:=46::B) (M:=M) (by simp) (by simp) gM hM0 hM1 l (by omega) i g hi hg zg c R Q H T
  have L:∀y∈l++List.replicate m x,y∈l\/y=x:=λy r=>by
   rcases zE.mp r with r | r
   ·exact .inl r
   ·exact .inr (List.eq_of_mem_replicate r)
  refine⟨_,rfl,_,_,.inl eb,rfl,_,i',g',_,_,_,_,λ_=>?_,λy r=>?_,hi',hg',λy r=>?_,λy r=>?_,rfl⟩
  ·rw[zu,List.length_replicate,Nat.succ_mul];omega
  ·rcases L y r with q | q
   ·exact F y q
   ·rw[q];exact hx1
  ·rcases L y r with q | q
   ·exact C y q
   ·rw[q];exact hx2
  ·rcases L y r with q | q
   ·exact E y q
   ·rw[q];exact hx3)
 rw[zZ,ze] at u;have hl1:=u J;have hl2:cl.length * M<=t * M:=Nat.mul_le_mul J (zc _);rw[hO,Z] at ef
 have P:tH [X] O=.ok (.lst (l.map dL)) O:=by
  show bA (vX [some X,none,none,none,none,none,none,none,none,none,none] O)=_;unfold vX;rw[gq s1,gq s2,gq s3];refine(congrArg bA (gq (cG (i:=4) (d:=.lst []) rfl))).trans ?_;refine(congrArg bA (gq (cG (i:=5) (d:=st 46) rfl))).trans ?_;refine(congrArg bA (gq (cG (i:=6) (d:=st 46) rfl))).trans ?_;refine(congrArg bA (gq (show cY _ (mgN 7) wC (eK X h (46::n) (46::B) [] 46 46 none none none none) O=_ from by rw[jR,it,jT];exact ef))).trans ?_;rfl
 rcases hab with⟨q1,q2⟩ | q
 ·exact⟨l,46::n,46::B,⟨by omega,F,zg,zg,by rw[zo];omega,by rw[zo];omega,qt o1,qt o2,C,E⟩,P⟩
 ·refine⟨l,46::l.map (·.2.1),46::l.map (·.2.2),⟨by omega,F,zg,zg,by rw[zo,ze];omega,by rw[zo,ze];omega,qt λc U=>?_,qt λc U=>?_,λx f=>zn _ (zz.mpr ⟨x,f,rfl⟩),λx f=>zn _ (zz.mpr ⟨x,f,rfl⟩)⟩,P⟩
  ·obtain⟨x,f,rfl⟩:=zz.mp U;exact qt o1 _ (C x f)
  ·obtain⟨x,f,rfl⟩:=zz.mp U;exact qt o2 _ (E x f)
structure Okt(t:List Nat):Prop where
 len:t.length<=5000
 ok:∀c∈t,(32<=c/\c<=125)\/c=10\/c=9
theorem Okt.lt{t:List Nat}(h:Okt t):∀c∈t,c<128:=λc a=>by
 have:=h.ok c a
 omega
theorem Okt.asc{t:List Nat}(h:Okt t):ascii t=true:=by
 unfold ascii;rw[List.all_eq_true];intro c a;exact zl (h.lt c a)
@[simp] theorem QBX{a:Nat}:gIx (.str [a]) (.int 0)=some (.str [a]):=rfl
@[simp] theorem QBD{a b:Nat}:gIx (.str [a,b]) (.int 0)=some (.str [a]):=rfl
@[simp] theorem QBK{a b:Nat}:gIx (.str [a,b]) (.int 1)=some (.str [b]):=rfl
@[simp] theorem QB4{a b c:Nat}:gIx (.str [a,b,c]) (.int 0)=some (.str [a]):=rfl
@[simp] theorem QB9{a b c:Nat}:gIx (.str [a,b,c]) (.int 1)=some (.str [b]):=rfl
@[simp] theorem QB5{a b c:Nat}:gIx (.str [a,b,c]) (.int 2)=some (.str [c]):=rfl
@[simp] theorem QBM{a b c d:Nat}:gIx (.str [a,b,c,d]) (.int 0)=some (.str [a]):=rfl
@[simp] theorem QBV{a b c d:Nat}:gIx (.str [a,b,c,d]) (.int 1)=some (.str [b]):=rfl
@[simp] theorem QB6{a b c d:Nat}:gIx (.str [a,b,c,d]) (.int 2)=some (.str [c]):=rfl
@[simp] theorem QBU{a b c d:Nat}:gIx (.str [a,b,c,d]) (.int 3)=some (.str [d]):=rfl
@[simp] theorem QzB{a b:D}:gIx (.tup [a,b]) (.int 0)=some a:=rfl
@[simp] theorem Qzd{a b:D}:gIx (.tup [a,b]) (.int 1)=some b:=rfl
@[simp] theorem QBH{a b c:D}:gIx (.tup [a,b,c]) (.int 0)=some a:=rfl
@[simp] theorem QBG{a b c:D}:gIx (.tup [a,b,c]) (.int 1)=some b:=rfl
@[simp] theorem Nj{a b c:D}:gIx (.tup [a,b,c]) (.int 2)=some c:=rfl
theorem wD(c:Nat)(O:aq):nO [.str [c]] O=.ok (.bl (col c)) O:=by
 simp[nO,Ah,col]
theorem Qp2(c:Nat)(O:aq):pJ [.str [c]] O=.ok (.bl (decide (32<=c/\c<=125))) O:=by
 simp[pJ,Ac]
 by_cases h:32<=c<;>simp[h]
theorem Nk{t:List Nat}{d:D}{i:Nat}(h:(dR 0 (cZ t))[i]?=some d):∃c,c∈t/\d=.tup [.int i,.str [c]]:=by
 rw[uB] at h;unfold cZ at h;rw[zA] at h
 cases q:t[i]? with
 |none=>rw[q] at h;cases h
 |some c =>
  rw[q] at h;simp at h;exact⟨c,zH q,h.symm⟩
theorem Qr4(t:List Nat)(h:Okt t)(O:aq):uZ [.str t] O=.ok .non O:=by
 obtain⟨m,n,l,rfl,j,f,rfl⟩:=pG (g:=gG 2 (cX (mgN 1) (cX (mgN 2) iw)))
  (b:=aX (dw (cB (bW (aJ pJ (aj (aa 2) au))) (cB (aB (ak gEq (aa 2) (mC (.str [10])))) (aB (ak gEq (aa 2) (mC (.str [9]))))))) qT bc)
  (λi ρ a=>a=O/\∃j f,ρ=[some (.str t),j,f]) (dR 0 (cZ t)) 0 [some (.str t),none,none] O ⟨rfl,none,none,rfl⟩ (by
   rintro i d ρ a hi ⟨rfl,j,f,rfl⟩;obtain⟨c,k,rfl⟩:=Nk hi;refine⟨_,rfl,_,_,.inl ?_,rfl,some (.int i),some (.str [c]),rfl⟩
   have:=h.ok c k
   have e:(cB (bW (aJ pJ (aj (aa 2) au))) (cB (aB (ak gEq (aa 2) (mC (.str [10])))) (aB (ak gEq (aa 2) (mC (.str [9])))))) [some (.str t),some (.int i),some (.str [c])] a=.ok true a:=by
    simp[Qp2]
    omega
   show aX (dw _) qT bc [some (.str t),some (.int i),some (.str [c])] a=_;simp only[nJ,uU,e,aV,nM,Bool.not_true,Ka]
   rfl)
 simp only[uZ,An,yR,zh,zL,zo,zJ,List.replicate,List.cons_append,zI,gm,nJ,uU,rZ,YX,nF,ji,aV,pC,YZ,YW,Zh,yM,yP,yO,Bool.not_true,nM,Ka,Bool.false_eq_true,if_false,lC,jR,Zu,KD h.asc,jT];show bA (bO _ _ (dR 0 (cZ t)) [some (.str t),none,none] _)=_;rw[l];rfl
def mkD:Option (List Nat×List Nat)->D
 |some (k,v)=>.tup [.str k,.str v]
 |none=>.non
theorem Qyk(s:List Nat)(h0:1<=s.length)(h4:s.length<=4)(O:aq):nQ [.str s] O=.ok (mkD (markB s)) O:=by
 match s,h0,h4 with
 | [a],_,_=>simp[nQ,pK,markB,mkD]
 | [a,b],_,_ =>
  simp[nQ,pK,markB]
  by_cases h1:a=91/\b=93
  ·simp[h1,mkD,iC]
  ·by_cases h2:a=91/\b=91
   ·simp[h2,mkD,bF]
   ·simp[h1,h2,mkD]
 | [a,b,c],_,_ =>
  simp[nQ,pK,markB,wD]
  by_cases h1:a=91
  ·by_cases h2:col b=true
   ·by_cases h3:c=93
    ·simp[h1,h2,h3,mkD,dM]
    ·simp[h1,h2,h3,mkD]
   ·simp[h1,h2,mkD]
  ·simp[h1,mkD]
 | [a,b,c,d],_,_ =>
  simp[nQ,pK,markB,wD]
  by_cases h1:a=91
  ·by_cases f:b=47
   ·by_cases h2:col c=true
    ·by_cases h3:d=93
     ·simp[h1,h2,h3,f,mkD,dX]
     ·simp[h1,h2,h3,f,mkD]
    ·simp[h1,h2,f,mkD]
   ·simp[h1,f,mkD]
  ·simp[h1,mkD]
theorem QzE(s:List Nat)(h0:1<=s.length)(h4:s.length<=4)(O:aq):nR [.str s] O=.ok (.bl (dD s)) O:=by
 match s,h0,h4 with
 | [a],_,_ =>
  simp[nR,pL,dD]
  by_cases h1:a=91<;>simp[h1]
 | [a,b],_,_ =>
  simp[nR,pL,dD,wD]
  by_cases h1:a=91
  ·by_cases h2:b=47<;>simp[h1,h2]
  ·simp[h1]
 | [a,b,c],_,_ =>
  simp[nR,pL,dD,wD]
  by_cases h1:a=91
  ·by_cases h2:b=47<;>simp[h1,h2]
  ·simp[h1]
 | [a,b,c,d],_,_ =>
  simp[nR,pL,dD]
theorem QyR(p:Int)(c:Nat)(O:aq):sS [.int p,.str [c]] O=.ok (own p c) O:=by
 simp[sS,Bc,own,item]
 by_cases h1:c=10
 ·simp[h1,fC]
 ·by_cases h2:c=9
  ·simp[h1,h2,fD]
  ·simp[h1,h2,bF]
theorem Nm(p:Int):∀(l:List Nat) (k:Nat),(dR k (cZ l)).map (λd=>match d with | .tup [.int i,.str [c]]=>own (p+i) c | _=>.non)=owns (p+k) l
 | [],k=>rfl
 |c::l,k=>by
  show own (p+(k:Int)) c::(dR (k+1) (cZ l)).map _=own (p+k) c::owns (p+k+1) l;rw[Nm p l (k+1)];congr 2;omega
theorem Fy(p:Int)(l:List Nat)(g:ascii l=true)(j:l.length<=100000)(O:aq):pM [.int p,.str l] O=.ok (.lst (owns p l)) O:=by
 have hl':(dR 0 (cZ l)).length<=1000000:=by rw[uA];unfold cZ;rw[ze];omega
 have h:dh (gG 2 (cX (mgN 0) (cX (mgN 1) iw))) iz (aJ sS (aj (ak aM (aa 2) (aa 0)) (aj (aa 1) au))) (dR 0 (cZ l)) [none,none,some (.int p)] O []=.ok (owns p l) O:=by
  rw[Kr (λρ=>∃a b,ρ=[a,b,some (.int p)]) (λd=>match d with | .tup [.int i,.str [c]]=>own (p+i) c | _=>.non) _ _ _ _ ⟨none,none,rfl⟩ (by
   rintro d hd ρ ⟨a,b,rfl⟩;obtain⟨i,f⟩:=List.mem_iff_getElem?.mp hd;obtain⟨c,k,rfl⟩:=Nk f;refine⟨_,rfl,⟨_,_,rfl⟩,rfl,?_⟩
   simp[QyR])]
  rw[Nm p l 0];simp
 simp[pM,Be,KD g,hl',h]
def RO(h:List Nat)(p:Int):Ob:=.ins "Reader" [("held",.str h),("place",.int p)]
theorem fh{O:aq}{n:Nat}{h:List Nat}{p:Int}(e:O[n]?=some (RO h p)):pI ["Reader"] "held" (.ob n) O=.ok (.str h) O:=by
 unfold pI;dsimp only;rw[e];rfl
theorem fp{O:aq}{n:Nat}{h:List Nat}{p:Int}(e:O[n]?=some (RO h p)):pI ["Reader"] "place" (.ob n) O=.ok (.int p) O:=by
 unfold pI;dsimp only;rw[e];rfl
theorem ph{O:aq}{n:Nat}{h h':List Nat}{p:Int}{ρ:aA}(e:O[n]?=some (RO h p)):puF ["Reader"] "held" (.str h') ρ (.ok (.ob n) O)=.nx ρ (O.set n (RO h' p)):=by
 unfold puF;dsimp only;rw[e];rfl
theorem pp{O:aq}{n:Nat}{h:List Nat}{p a:Int}{ρ:aA}(e:O[n]?=some (RO h p)):puF ["Reader"] "place" (.int a) ρ (.ok (.ob n) O)=.nx ρ (O.set n (RO h a)):=by
 unfold puF;dsimp only;rw[e];rfl
theorem gs{O:aq}{n:Nat}{x y:Ob}(e:O[n]?=some x):(O.set n y)[n]?=some y:=by
 obtain⟨h,_⟩:=zq.mp e;simp[h]
theorem Fz{h:List Nat}(H:cz h):ascii h=true:=by
 cases H with
 |h0=>rfl
 |h1=>rfl
 |h2=>rfl
 |h3 x hx =>
  have:x∈[97,98,99,100,101,102,103,104,46]:=zV hx
  have q:∀c∈[97,98,99,100,101,102,103,104,46],c<128:=by decide
  simp[ascii,q x this]
 |h4 x hx =>
  have:x∈[97,98,99,100,101,102,103,104,46]:=zV hx
  have q:∀c∈[97,98,99,100,101,102,103,104,46],c<128:=by decide
  simp[ascii,q x this]
theorem Qwh{a:List Nat}{c:Nat}(h:ascii a=true)(b:c<128):ascii (a++[c])=true:=by
 unfold ascii at *;rw[List.all_append,h];simp[b]
theorem Qyo{O:aq}{n:Nat}{h:List Nat}{p:Int}(e:O[n]?=some (RO h p))(H:cz h)(c:Nat)(l:c<128):iZ [.ob n,.str [c]] O=.ok (.lst (tk h c (p - h.length)).1) (O.set n (RO (tk h c (p - h.length)).2 (p+1))):=by
 have u:=H.len;have a:(O.set n (RO h (p+1)))[n]?=some (RO h (p+1)):=gs e
 have j:h.length+1<=1000000:=by omega
 have i:h.length<=1000000:=by omega
 have d:1<=(h++[c]).length:=by simp
 have b:(h++[c]).length<=4:=by simp;omega
 have t:=QzE (h++[c]) d b;have r:=Qyk (h++[c]) d b
 have q:=λO=>Fy (p - h.length) h (Fz H) (by omega) O
 have m:=λO=>Fy (p - h.length) (h++[c]) (Qwh (Fz H) l) (by omega) O
 unfold tk;simp[iZ,Bo,fh e,fp e,pp e,j,i,t]
 by_cases g:dD (h++[c])=true
 ·simp[g,ph a]
 ·simp[g,r]
  cases q2:markB (h++[c]) with
  |some kv =>
   obtain⟨k,v⟩:=kv;simp[mkD,ph a,item]
  |none =>
   simp[mkD]
   by_cases f:c=91
   ·subst f;simp[fh a,q,ph a]
   ·simp[f,ph a,m]
theorem FJ:∀(l:List Nat) (p:Int),(owns p l).length=l.length
 | [],_=>rfl
 |c::l,p=>by show(owns (p+1) l).length+1=l.length+1;rw[FJ l]
theorem Np{h:List Nat}(H:cz h)(c:Nat)(p:Int):(tk h c p).1.length<=4:=by
 have:=H.len
 unfold tk
 split
 ·simp
 ·split
  ·simp
  ·split<;>simp[FJ]<;>omega
theorem Nq:∀(t:List Nat) {h:List Nat} (_:cz h) (p:Int),(cU h p t).1.length<=4 * t.length
 | [],h,H,p=>by simp[cU]
 |c::t,h,H,p=>by
  have a:=Np H c (p - h.length);have b:=Nq t (Aa H c (p - h.length) []).1 (p+1);simp only[cU,zu,zo];omega
theorem Qtf{O:aq}{n:Nat}{x y:Ob}:(O.set n x).set n y=O.set n y:=by simp
theorem Nr{n:Nat}{t0:List Nat}:∀(t:List Nat) (h:List Nat) (_:cz h) (p:Int) (acc:List D) (O:aq) (b:Option D),O[n]?=some (RO h p)->(∀c∈t,c<128)->acc.length+4 * t.length<=1000000 ->
  ∃a,bO (mgN 3) (lz 2 (bQ "Reader" "take" iZ (aa 0) (aj (aa 3) au))) (cZ t) [some (.ob n),some (.str t0),some (.lst acc),b] O=.nx [some (.ob n),some (.str t0),some (.lst (acc++(cU h p t).1)),a] (O.set n (RO (cU h p t).2 (p+t.length)))
 | [],h,H,p,acc,O,b,e,_,_=>by
  refine⟨b,?_⟩;obtain⟨k,j⟩:=zq.mp e;show Fl.nx _ O=_;simp only[cU,zU,zJ]
  have:O.set n (RO h p)=O:=by rw[<-j];exact List.set_getElem_self _
  simp[this]
 |c::t,h,H,p,acc,O,b,e,hc,hl=>by
  have g:=Qyo e H c (hc c zg)
  have f:meF "Reader" "take" iZ (aj (aa 3) au [some (.ob n),some (.str t0),some (.lst acc),some (.str [c])]) (.ob n) O=iZ [.ob n,.str [c]] O:=by
   unfold meF;dsimp only;rw[e];rfl
  have tl:=Np H c (p - h.length);simp only[zo] at hl;obtain⟨a,q⟩:=Nr t (tk h c (p - h.length)).2 (Aa H c (p - h.length) []).1 (p+1) (acc++(tk h c (p - h.length)).1) (O.set n (RO (tk h c (p - h.length)).2 (p+1))) (some (.str [c])) (gs e) (λd hd=>hc d (zn _ hd)) (by rw[zu];omega);refine⟨a,?_⟩
  have i:(lz 2 (bQ "Reader" "take" iZ (aa 0) (aj (aa 3) au))) [some (.ob n),some (.str t0),some (.lst acc),some (.str [c])] O=.nx [some (.ob n),some (.str t0),some (.lst (acc++(tk h c (p - h.length)).1)),some (.str [c])] (O.set n (RO (tk h c (p - h.length)).2 (p+1))):=by
   rw[Zr,z8,nF];show exF 2 (meF "Reader" "take" iZ _ (.ob n) O) _=_;rw[f,g,Zt (ds:=acc) rfl (by omega)];rfl
  show bO _ _ (D.str [c]::cZ t) _ O=_;unfold bO;rw[mg_n];dsimp only
  show(match(lz 2 (bQ "Reader" "take" iZ (aa 0) (aj (aa 3) au))) [some (.ob n),some (.str t0),some (.lst acc),some (.str [c])] O with
   | .nx ρ' O'=>bO _ _ (cZ t) ρ' O' | .ct ρ' O'=>bO _ _ (cZ t) ρ' O' | .bk ρ' O'=>Fl.nx ρ' O' | r=>r)=_
  rw[i];dsimp only;rw[q,Qtf];simp only[cU,zB,zo];congr 3
  push_cast
  omega
theorem Qx2{O:aq}{n:Nat}{h:List Nat}{p:Int}(e:O[n]?=some (RO h p))(H:cz h)(t:List Nat)(a:Okt t):u9 [.ob n,.str t] O=.ok (.lst (cU h p t).1) (O.set n (RO (cU h p t).2 (p+t.length))):=by
 have c:=a.len;obtain⟨b,q⟩:=Nr (t0:=t) t h H p [] O none e a.lt (by simp;omega);have q':bO (mgN 3) (lz 2 (bQ "Reader" "take" iZ (aa 0) (aj (aa 3) au))) (cZ t) [some (.ob n),some (.str t),some (.lst []),none] O=_:=q;simp only[u9,Bu,yR,zh,zL,zo,zJ,List.replicate,List.cons_append,zI,gm,Ke,su,nH,sr,nF,ji,jh,aV,Qr4 t a,Kf,lC,sG,J5,Nat.zero_le,if_true,sH,List.set_cons_succ,List.set_cons_zero,jR,yU,Y7 a.asc,yS,jT,q',eG,Kc,Kh]
theorem QsS{O:aq}{n:Nat}{h:List Nat}{p:Int}(e:O[n]?=some (RO h p))(H:cz h):vd [.ob n] O=.ok (.lst (owns (p - h.length) h)) (O.set n (RO [] p)):=by
 have c:=H.len
 have a:h.length<=1000000:=by omega
 have b:=λO=>Fy (p - h.length) h (Fz H) (by omega) O
 simp[vd,BJ,fh e,fp e,a,b,ph e]
theorem QxS(O:aq):sU [.ob O.length] (O++[.ins "Reader" []])=.ok .non (O++[RO [] 0]):=by
 have a:(O++[Ob.ins "Reader" []])[O.length]?=some (.ins "Reader" []):=by simp
 have d:∀ρ,puF ["Reader"] "held" (.str []) ρ (.ok (.ob O.length) (O++[.ins "Reader" []]))=.nx ρ (O++[.ins "Reader" [("held",.str [])]]):=λρ=>by
  unfold puF;dsimp only;rw[a];dsimp only;rw[if_pos (by decide)];simp[putD]
 have b:(O++[Ob.ins "Reader" [("held",.str [])]])[O.length]?=some (.ins "Reader" [("held",.str [])]):=by simp
 have c:∀ρ,puF ["Reader"] "place" (.int 0) ρ (.ok (.ob O.length) (O++[.ins "Reader" [("held",.str [])]]))=.nx ρ (O++[RO [] 0]):=λρ=>by
  unfold puF;dsimp only;rw[b];dsimp only;rw[if_pos (by constructor<;>decide)]
  have:putD "place" (.int 0) [("held",.str [])]=[(("held":Str),D.str []),("place",.int 0)]:=by rfl
  rw[this];simp[RO]
 simp[sU,Bk,d,c]
theorem QyU(ρ:aA)(O:aq):jQ "Reader" sU au ρ O=.ok (.ob O.length) (O++[RO [] 0]):=by
 simp[QxS]
theorem FN(O:aq):(O++[RO [] 0])[O.length]?=some (RO [] 0):=by simp
theorem Nt{f:List D->aq->Res D}{m:Str}{d:aq->Res (List D)}{n:Nat}{O:aq}{h:List Nat}{p:Int}(g:m≠"held")(c:m≠"place")(e:O[n]?=some (RO h p)):meF "Reader" m f d (.ob n) O=(d O).bind λds i=>f (.ob n::ds) i:=by
 unfold meF;dsimp only;rw[e];dsimp only[RO];rw[if_pos];refine⟨rfl,?_⟩
 have a:(m == ("held":Str))=false:=by simpa using g
 have b:(m == ("place":Str))=false:=by simpa using c
 simp[List.lookup,a,b]
theorem QqA(t:List Nat)(b:Okt t)(O:aq):∃f,pN [.str t] O=.ok (.lst (items 0 t)) f:=by
 obtain⟨H,q⟩:=Zw t;have d:=Qx2 (FN O) cz.h0 t b;have a:((O++[RO [] 0]).set O.length (RO (cU [] 0 t).2 (0+t.length)))[O.length]?=some (RO (cU [] 0 t).2 (0+t.length)):=gs (FN O);have c:=QsS a H;have i:=b.len;have h:=Nq t cz.h0 0;have g:=H.len
 have z:(cU [] 0 t).1.length+(owns (0+(t.length:Int) - ((cU [] 0 t).2.length:Int)) (cU [] 0 t).2).length<=1000000:=by
  rw[FJ];omega
 rw[q];have z':=Int.zero_add (t.length:Int);rw[z'] at d c a z;refine⟨((O++[RO [] 0]).set O.length (RO (cU [] 0 t).2 t.length)).set O.length (RO [] t.length),?_⟩;simp only[pN,BR,yR,zh,zL,zo,zJ,List.replicate,List.cons_append,zI,gm,sG,QyU,sH,lC,List.set_cons_succ,List.set_cons_zero,z8,nF,ji,jh,aV,Nt (show("feed":Str)≠"held" by decide) (by decide) (FN O),nH,sr,d,eG,pF,Nt (show("finish":Str)≠"held" by decide) (by decide) a,c,nD,Za,if_pos z,iR,Kc,Kh]
def asc(l:List Nat):Prop:=∀c∈l,c<128
theorem Nu{i g:List Nat}(b:asc i)(d:asc g):okE (.tup [.str i,.str g])=true:=by
 unfold okE;show(true&&okD (.tuple [.str (S i),.str (S g)]))=true;unfold okD
 rw[show(PyData.tuple [.str (S i),.str (S g)]).canLay0=true by
  show((PyData.str (S i)).canLay0&&((PyData.str (S g)).canLay0&&true))=true;rw[pH λc a=>Nat.lt_trans (b c a) (by decide),pH λc a=>Nat.lt_trans (d c a) (by decide)]
  rfl]
 rfl
theorem FP(a b:List Nat):(S a == S b)=decide (a=b):=by
 by_cases h:a=b
 ·subst h;rw[zl rfl];exact beq_self_eq_true _
 ·rw[zd h]
  refine beq_eq_false_iff_ne.mpr λz=>h ?_
  have:=congrArg (λx:Str=>x.cps.toList) z
  simpa [iH] using this
theorem Qxh(i g a b:List Nat):jK (.tup [.str i,.str g]) (.tup [.str a,.str b])=(decide (i=a)&&decide (g=b)):=by
 rw[<-FP,<-FP];show((S i == S a)&&((S g == S b)&&true))=_;rw[Bool.and_true]
theorem Qzo{i j:List D}:gEq (.tup i) (.tup j)=if(okE (.tup i)&&okE (.tup j))=true then some (.bl (jK (.tup i) (.tup j))) else none:=rfl
theorem QzF{i g:List Nat}(b:asc i)(d:asc g):gEq (.tup [.str i,.str g]) (.tup [.str [46],.str [46]])=some (.bl (decide (i=[46])&&decide (g=[46]))):=by
 have a:asc [46]:=by intro c f;revert c;decide
 rw[Qzo,Nu b d,Nu a a,Qxh];rfl
def kvf:Nat->List Nat->List (List Nat×List Nat)
 | 0,_=>[]
 | _+1,[]=>[]
 |n+1,c::r=>((one c r).1,(one c r).2.1)::kvf n (r.drop (one c r).2.2)
theorem Nv:∀(n:Nat) (t:List Nat) (p:Int),t.length<=n->∃L:List (Int×List Nat×List Nat),items p t=L.map (λx=>item x.1 x.2.1 x.2.2)/\L.map (·.2)=kvf n t
 | 0,t,p,h=>by
  cases t with
  |nil=>exact⟨[],lD p,rfl⟩
  |cons c t=>simp at h
 |n+1,[],p,h=>⟨[],lD p,rfl⟩
 |n+1,c::t,p,h=>by
  simp only[zo] at h;obtain⟨L,b,a⟩:=Nv n (t.drop (one c t).2.2) (p+((one c t).2.2+1:Nat)) (by rw[List.length_drop];omega);refine⟨(p,(one c t).1,(one c t).2.1)::L,?_,?_⟩
  ·rw[sJ,b];rfl
  ·show((one c t).1,(one c t).2.1)::L.map (·.2)=_;rw[a];rfl
def shI(v i:List Nat):List Nat:=if v=[32] then[46] else i
def shF:List (List Nat×List Nat)->List Nat->List Nat->List D->Option (List D)
 | [],i,g,acc=>if i=[46]/\g=[46] then some acc else none
 | (k,v)::r,i,g,acc=>if k=fC\/k=fD then none else if k=bF then shF r i g (acc++[.tup [.str v,.str (shI v i),.str g]]) else if k=dM then shF r v g acc else if k=dX then shF r i v acc else shF r [46] [46] acc
def Nx:Option (List D)->D
 |some l=>.lst l
 |none=>.non
theorem Qzu(v i:List Nat)(O:aq):nP [.str v,.str i] O=.ok (.str (shI v i)) O:=by
 unfold shI
 by_cases h:v=[32]
 ·simp[nP,u0,h]
 ·simp[nP,u0,h]
def pbh(i g k v:List Nat):List Nat×List Nat:=if k=dM then(v,g) else if k=dX then(i,v) else if k=bF then(i,g) else([46],[46])
theorem Qxm(i g k v:List Nat)(O:aq):mL [.tup [.str i,.str g],.str k,.str v] O=.ok (.tup [.str (pbh i g k v).1,.str (pbh i g k v).2]) O:=by
 unfold pbh
 by_cases h1:k=dM
 ·simp[mL,pO,h1,dM]
 ·have h1':¬k=[105,110,107]:=h1
  by_cases h2:k=dX
  ·subst h2;simp[mL,pO,dM,dX]
  ·have h2':¬k=[103,114,111,117,110,100]:=h2
   by_cases h3:k=bF
   ·subst h3;simp[mL,pO,dM,dX,bF]
   ·have h3':¬k=[115,105,103,110]:=h3;simp[mL,pO,h1,h2,h3,h1',h2',h3']
def bU:MS:=(aC (aK 4 (ak gIx (aa 3) (mC (.int 1))))
  (aC (aX (cB (aB (ak gEq (aa 4) (mC (.str [101,110,100])))) (aB (ak gEq (aa 4) (mC (.str [97,110,101,119]))))) (aO (mG (mC .non))) bc)
  (aC (aX (aB (ak gEq (aa 4) (mC (.str [115,105,103,110])))) (cO 2 (bT (aj (ak gIx (aa 3) (mC (.int 2))) (aj (aJ nP (aj (ak gIx (aa 3) (mC (.int 2))) (aj (ak gIx (aa 1) (mC (.int 0))) au))) (aj (ak gIx (aa 1) (mC (.int 1))) au))))) bc)
  (aK 1 (aJ mL (aj (aa 1) (aj (aa 4) (aj (ak gIx (aa 3) (mC (.int 2))) au))))))))
def mV(k v i g:List Nat)(acc:List D):List D:=if k=bF then acc++[.tup [.str v,.str (shI v i),.str g]] else acc
theorem Qxj{p:Int}{k v:List Nat}(f:k=fC\/k=fD)(c b a:D)(d:Option D)(O:aq):bU [some c,some b,some a,some (item p k v),d] O=.rt .non O:=by
 unfold bU;rw[dY ((show aK 4 (ak gIx (aa 3) (mC (.int 1))) [some c,some b,some a,some (item p k v),d] O=.nx [some c,some b,some a,some (item p k v),some (.str k)] O from rfl))];refine sO ?_
 rcases f with rfl | rfl
 ·rfl
 ·rfl
theorem Qy5{p:Int}{k v:List Nat}(c:¬(k=fC\/k=fD))(i g:List Nat)(acc:List D)(j:acc.length<1000000)(a:D)(b:Option D)(O:aq):bU [some a,some (.tup [.str i,.str g]),some (.lst acc),some (item p k v),b] O =
  .nx [some a,some (.tup [.str (pbh i g k v).1,.str (pbh i g k v).2]),some (.lst (mV k v i g acc)),some (item p k v),some (.str k)] O:=by
 have f:¬k=[101,110,100]:=λz=>c (.inl z)
 have d:¬k=[97,110,101,119]:=λz=>c (.inr z)
 unfold bU;rw[dY ((show aK 4 (ak gIx (aa 3) (mC (.int 1))) [some a,some (.tup [.str i,.str g]),some (.lst acc),some (item p k v),b] O=.nx [some a,some (.tup [.str i,.str g]),some (.lst acc),some (item p k v),some (.str k)] O from rfl))];rw[dY ((show aX (cB (aB (ak gEq (aa 4) (mC (.str [101,110,100])))) (aB (ak gEq (aa 4) (mC (.str [97,110,101,119]))))) (aO (mG (mC .non))) bc [some a,some (.tup [.str i,.str g]),some (.lst acc),some (item p k v),some (.str k)] O=.nx [some a,some (.tup [.str i,.str g]),some (.lst acc),some (item p k v),some (.str k)] O by simp[f,d]))]
 have l:aX (aB (ak gEq (aa 4) (mC (.str [115,105,103,110])))) (cO 2 (bT (aj (ak gIx (aa 3) (mC (.int 2))) (aj (aJ nP (aj (ak gIx (aa 3) (mC (.int 2))) (aj (ak gIx (aa 1) (mC (.int 0))) au))) (aj (ak gIx (aa 1) (mC (.int 1))) au))))) bc [some a,some (.tup [.str i,.str g]),some (.lst acc),some (item p k v),some (.str k)] O=.nx [some a,some (.tup [.str i,.str g]),some (.lst (mV k v i g acc)),some (item p k v),some (.str k)] O:=by
  unfold mV
  by_cases h:k=bF
  ·subst h;simp only[nJ,uT,pF,nF,m_c,ji,jh,aV,pC,yW,iR,uR,bF,decide_true,nM,if_true,Ky,J6,nH,sr,item,yN,iT,Nj,QzB,Qzd,su,Qzu,zo,zJ,Nat.reduceAdd,Nat.reduceLeDiff];rw[Kz (ds:=acc) rfl j];rfl
  ·have h':¬k=[115,105,103,110]:=h;simp[h,h']
 rw[dY l]
 skip
 rw[sG];simp only[su,nH,sr,nF,pF,m_c,ji,jh,aV,item,yN,iT,Nj,iR,Qxm,sH,List.set_cons_succ,List.set_cons_zero]
theorem qw{k v:List Nat}(a:¬(k=fC\/k=fD))(r:List (List Nat×List Nat))(i g:List Nat)(acc:List D):shF ((k,v)::r) i g acc=shF r (pbh i g k v).1 (pbh i g k v).2 (mV k v i g acc):=by
 show(if k=fC\/k=fD then none else if k=bF then shF r i g (acc++[.tup [.str v,.str (shI v i),.str g]]) else if k=dM then shF r v g acc else if k=dX then shF r i v acc else shF r [46] [46] acc)=_;rw[if_neg a];unfold pbh mV
 by_cases h1:k=bF
 ·subst h1;rfl
 ·rw[if_neg h1,if_neg h1]
  by_cases h2:k=dM
  ·rw[if_pos h2,if_pos h2,if_neg h1]
  ·rw[if_neg h2,if_neg h2]
   by_cases h3:k=dX
   ·rw[if_pos h3,if_pos h3,if_neg h1]
   ·rw[if_neg h3,if_neg h3,if_neg h1]
theorem Qvk{i g k v:List Nat}(b:asc i)(d:asc g)(hv:asc v):asc (pbh i g k v).1/\asc (pbh i g k v).2:=by
 have a:asc [46]:=by intro c f;revert c;decide
 unfold pbh
 split
 ·exact⟨hv,d⟩
 ·split
  ·exact⟨b,hv⟩
  ·split
   ·exact⟨b,d⟩
   ·exact⟨a,a⟩
theorem Ny(k v i g:List Nat)(acc:List D):(mV k v i g acc).length<=acc.length+1:=by
 unfold mV
 split
 ·rw[zu];exact zc _
 ·exact Nat.le_succ _
theorem Nz(c:D)(O:aq):∀(L:List (Int×List Nat×List Nat)) (i g:List Nat) (acc:List D) (d a:Option D),(∀x∈L,asc x.2.2)->asc i->asc g->acc.length+L.length<=100000 ->
  (bO (mgN 3) bU (L.map λx=>item x.1 x.2.1 x.2.2) [some c,some (.tup [.str i,.str g]),some (.lst acc),d,a] O=.rt .non O/\shF (L.map (·.2)) i g acc=none) \/
  ∃h g' b l j,bO (mgN 3) bU (L.map λx=>item x.1 x.2.1 x.2.2) [some c,some (.tup [.str i,.str g]),some (.lst acc),d,a] O=.nx [some c,some (.tup [.str h,.str g']),some (.lst b),l,j] O/\asc h/\asc g'/\shF (L.map (·.2)) i g acc=shF [] h g' b
 | [],i,g,acc,d,a,_,hi,hg,_=>.inr ⟨i,g,acc,d,a,rfl,hi,hg,rfl⟩
 | (p,k,v)::L,i,g,acc,d,a,hL,hi,hg,hl=>by
  rw[zo] at hl
  have st:∀r,bU [some c,some (.tup [.str i,.str g]),some (.lst acc),some (item p k v),a] O=r->bO (mgN 3) bU (((p,k,v)::L).map λx=>item x.1 x.2.1 x.2.2) [some c,some (.tup [.str i,.str g]),some (.lst acc),d,a] O=(match r with
    | .nx ρ2 O2=>bO (mgN 3) bU (L.map λx=>item x.1 x.2.1 x.2.2) ρ2 O2
    | .ct ρ2 O2=>bO (mgN 3) bU (L.map λx=>item x.1 x.2.1 x.2.2) ρ2 O2
    | .bk ρ2 O2=>.nx ρ2 O2
    |r=>r):=λr e=>by
   subst e;rfl
  by_cases f:k=fC\/k=fD
  ·refine .inl ⟨st _ (Qxj f _ _ _ _ O),?_⟩;show(if k=fC\/k=fD then none else _)=_;rw[if_pos f]
  ·have n:=hL (p,k,v) zg;obtain⟨a1,a2⟩:=Qvk (k:=k) hi hg n;have ll:=Ny k v i g acc;have e:=st _ (Qy5 f i g acc (by omega) c a O);have q:=qw f (L.map (·.2)) (v:=v) i g acc;rw[e,zh,q];exact Nz c O L _ _ _ (some (item p k v)) (some (.str k)) (λx m=>hL x (zn _ m)) a1 a2 (by omega)
theorem QwB{c:Nat}{r:List Nat}(h:∀x∈c::r,x<128):asc (one c r).2.1:=by
 have b:=h c zg
 have a:asc ([91]:List Nat):=by intro c b;revert c;decide
 have g:asc ([]:List Nat):=λ_ z=>nomatch z
 have a1:∀x,x<128->asc [x]:=λx i c b=>by rw[zt.mp b];exact i
 unfold one
 split
 ·exact g
 split
 ·exact g
 split
 ·unfold cL
  cases r with
  |nil=>exact a
  |cons d r =>
   have hd:=h d (by simp);dsimp only
   split
   ·exact g
   split
   ·exact a
   split
   ·unfold fU
    cases r with
    |nil=>exact a
    |cons e r =>
     dsimp only
     split
     ·exact a1 _ hd
     ·exact a
   split
   ·unfold fK
    cases r with
    |nil=>exact a
    |cons e r =>
     have j:=h e (by simp);dsimp only
     split
     ·unfold gQ
      cases r with
      |nil=>exact a
      |cons f r =>
       dsimp only
       split
       ·exact a1 _ j
       ·exact a
     ·exact a
   ·exact a
 ·exact a1 _ b
theorem NB:∀(n:Nat) (t:List Nat),(∀x∈t,x<128)->∀x∈kvf n t,asc x.2
 | 0,t,_=>λx a=>nomatch a
 |n+1,[],_=>λx a=>nomatch a
 |n+1,c::r,h=>λx a=>by
  rcases zk.mp (show x∈((one c r).1,(one c r).2.1)::kvf n (r.drop (one c r).2.2) from a) with rfl | a
  ·exact QwB h
  ·exact NB n _ (λy b=>h y (zn _ (List.mem_of_mem_drop b))) x a
theorem Qq1(t:List Nat)(i:Okt t)(O:aq):∃b,jX [.str t] O=.ok (Nx (shF (kvf t.length t) [46] [46] [])) b:=by
 obtain⟨b,G⟩:=QqA t i O;obtain⟨L,q,n⟩:=Nv t.length t 0 (zc _);have hlen:=i.len
 have ll:L.length<=t.length:=by
  have:=KJ t.length t 0 (zc _)
  rw[q,ze] at this;exact this
 have F:∀x∈L,asc x.2.2:=λx C=>NB t.length t i.lt x.2 (by rw[<-n];exact zz.mpr ⟨x,C,rfl⟩)
 have h:asc [46]:=by intro c H;revert c;decide
 refine⟨b,?_⟩;rw[<-n]
 have u:∀r,bO (mgN 3) bU (L.map λx=>item x.1 x.2.1 x.2.2) [some (.str t),some (.tup [.str [46],.str [46]]),some (.lst []),none,none] b=r->cY (cR (aJ pN (aj (aa 0) au))) (mgN 3) bU [some (.str t),some (.tup [.str [46],.str [46]]),some (.lst []),none,none] O=r:=λr e=>by
  rw[jR,yU,cF (show aj (aa 0) au [some (.str t),some (.tup [.str [46],.str [46]]),some (.lst []),none,none] O=.ok [.str t] O from rfl),G,aV,Kl,yS,jT,q];exact e
 show bA (aC (aK 1 (mC (.tup [.str [46],.str [46]]))) (aC (aK 2 (bV au)) (aC (cY (cR (aJ pN (aj (aa 0) au))) (mgN 3) bU) (aO (mIf (aB (ak gEq (aa 1) (mC (.tup [.str [46],.str [46]])))) (aa 2) (mG (mC .non)))))) [some (.str t),none,none,none,none] O)=_
 rw[dY (show aK 1 (mC (.tup [.str [46],.str [46]])) [some (.str t),none,none,none,none] O=.nx [some (.str t),some (.tup [.str [46],.str [46]]),none,none,none] O from rfl),
  dY (show aK 2 (bV au) [some (.str t),some (.tup [.str [46],.str [46]]),none,none,none] O=.nx [some (.str t),some (.tup [.str [46],.str [46]]),some (.lst []),none,none] O from rfl)]
 rcases Nz (.str t) b L [46] [46] [] none none F h h (by rw[zJ];omega) with⟨k,j⟩ | ⟨d,f,a,B,y,k,a1,a2,j⟩
 ·rw[sO (u _ k),j];rfl
 ·rw[dY (u _ k),j]
  have l:aB (ak gEq (aa 1) (mC (.tup [.str [46],.str [46]]))) [some (.str t),some (.tup [.str d,.str f]),some (.lst a),B,y] b=.ok (decide (d=[46])&&decide (f=[46])) b:=by
   simp only[uT,pF,nF,m_c,ji,jh,aV,yN,QzF a1 a2,iR,uR]
  have m:shF [] d f a=if d=[46]/\f=[46] then some a else none:=rfl;rw[m,eG,nG,l,aV]
  by_cases g:d=[46]/\f=[46]
  ·rw[if_pos g,g.1,g.2];rfl
  ·rw[if_neg g]
   have E:(decide (d=[46])&&decide (f=[46]))=false:=by
    rw[<-Bool.decide_and];exact zd g
   rw[E,if_neg zf];rfl
theorem QwJ{c:Nat}:gIn false (.str [c]) (.str [97,98,99,100,101,102,103,104,46])=some (.bl (col c)):=by
 rw[Ko];simp[col]
theorem one_le(c:Nat)(r:List Nat):(one c r).2.2<=r.length:=by
 unfold one
 split
 ·simp
 split
 ·simp
 split
 ·unfold cL
  cases r with
  |nil=>simp
  |cons d r =>
   dsimp only
   split
   ·simp
   split
   ·simp
   split
   ·unfold fU
    cases r with
    |nil=>simp
    |cons e r=>dsimp only;split<;>simp
   split
   ·unfold fK
    cases r with
    |nil=>simp
    |cons e r =>
     dsimp only
     split
     ·unfold gQ
      cases r with
      |nil=>simp
      |cons f r=>dsimp only;split<;>simp
     ·simp
   ·simp
 ·simp
theorem Qvr(O:aq):eV [.str []] O=.ok (.bl false) O:=rfl
theorem Qv2(c:Nat)(O:aq):eV [.str [c]] O=.ok (.bl (col c)) O:=by
 simp[-Ko,eV,En,QwJ]
def knd(c:Nat):List Nat:=if c=10 then fC else if c=9 then fD else bF
def wG:L2.M D:=(uG (rJ (mj (mC (.str [10])) (mC (.str [101,110,100])) (mj (mC (.str [9])) (mC (.str [97,110,101,119])) rH))) (ak gIx (aa 0) (aa 2)) (mC (.str [115,105,103,110])))
theorem Qw7{ρ:aA}{O:aq}{c:Nat}(h:ak gIx (aa 0) (aa 2) ρ O=.ok (.str [c]) O):wG ρ O=.ok (.str (knd c)) O:=by
 have d:rJ (mj (mC (.str [10])) (mC (.str [101,110,100])) (mj (mC (.str [9])) (mC (.str [97,110,101,119])) rH)) ρ O=.ok (.dic [.str [10],.str [9]] [.str [101,110,100],.str [97,110,101,119]]) O:=rfl;unfold wG uG;rw[d,aV,h,aV,m_c,aV];show Res.ok ((lZ [.str [10],.str [9]] [.str [101,110,100],.str [97,110,101,119]] (.inr (S [c]))).getD (.str [115,105,103,110])) O=_;unfold knd
 by_cases h1:c=10
 ·subst h1;rfl
 ·by_cases h2:c=9
  ·subst h2;rfl
  ·rw[if_neg h1,if_neg h2]
   have b:S [10]≠S [c]:=λz=>h1 (List.cons.inj (m5 z)).1.symm
   have a:S [9]≠S [c]:=λz=>h2 (List.cons.inj (m5 z)).1.symm
   have:lZ [.str [10],.str [9]] [.str [101,110,100],.str [97,110,101,119]] (.inr (S [c]))=none:=by
    simp[lZ,b,a]
   rw[this];rfl
def rv(c:Nat)(r:List Nat):List Nat:=if c=10\/c=9 then[c] else(one c r).2.1
def rd(c:Nat)(r:List Nat):D:=.tup [.str (one c r).1,.str (rv c r),.int ((one c r).2.2+1:Nat)]
def bR:MS:=(aX (aB (ak gEq (mSl (aa 0) (moS (aa 2)) (moS (ak aM (aa 2) (mC (.int 2))))) (mC (.str [91,91])))) (cO 1 (bT (aj (mC (.str [115,105,103,110])) (aj (mC (.str [91])) (aj (mC (.int 2)) au))))) (aX (aB (ak gEq (mSl (aa 0) (moS (aa 2)) (moS (ak aM (aa 2) (mC (.int 2))))) (mC (.str [91,93])))) (cO 1 (bT (aj (mC (.str [112,108,97,105,110])) (aj (mC (.str [])) (aj (mC (.int 2)) au))))) (aX (cD (aB (ak gEq (ak gIx (aa 0) (aa 2)) (mC (.str [91])))) (cD (bW (aJ eV (aj (mSl (aa 0) (moS (ak aM (aa 2) (mC (.int 1)))) (moS (ak aM (aa 2) (mC (.int 2))))) au))) (aB (ak gEq (mSl (aa 0) (moS (ak aM (aa 2) (mC (.int 2)))) (moS (ak aM (aa 2) (mC (.int 3))))) (mC (.str [93])))))) (cO 1 (bT (aj (mC (.str [105,110,107])) (aj (ak gIx (aa 0) (ak aM (aa 2) (mC (.int 1)))) (aj (mC (.int 3)) au))))) (aX (cD (aB (ak gEq (mSl (aa 0) (moS (aa 2)) (moS (ak aM (aa 2) (mC (.int 2))))) (mC (.str [91,47])))) (cD (bW (aJ eV (aj (mSl (aa 0) (moS (ak aM (aa 2) (mC (.int 2)))) (moS (ak aM (aa 2) (mC (.int 3))))) au))) (aB (ak gEq (mSl (aa 0) (moS (ak aM (aa 2) (mC (.int 3)))) (moS (ak aM (aa 2) (mC (.int 4))))) (mC (.str [93])))))) (cO 1 (bT (aj (mC (.str [103,114,111,117,110,100])) (aj (ak gIx (aa 0) (ak aM (aa 2) (mC (.int 2)))) (aj (mC (.int 4)) au))))) (cO 1 (bT (aj wG (aj (ak gIx (aa 0) (aa 2)) (aj (mC (.int 1)) au)))))))))
theorem NP{t:List Nat}{n c:Nat}{r:List Nat}(h:t.drop n=c::r)(j:Nat):t.drop (n+j)=(c::r).drop j:=by rw[<-List.drop_drop,h]
theorem NQ{t:List Nat}(hz:t.length<=1000000){n j:Nat}{x:Nat}{s:List Nat}(h:t.drop (n+j)=x::s):gIx (.str t) (.int ((n:Int)+(j:Int)))=some (.str [x]):=by
 rw[Kp,if_pos hz,show(n:Int)+(j:Int)=((n+j:Nat):Int) by push_cast;rfl,uX]
 have:t[n+j]?=some x:=by
  have:=congrArg (λl=>l[0]?) h
  simpa using this
 rw[this];rfl
def rd4(c:Nat)(r:List Nat):D :=
 if(c::r).take 2=[91,91] then .tup [.str [115,105,103,110],.str [91],.int 2]
 else if(c::r).take 2=[91,93] then .tup [.str [112,108,97,105,110],.str [],.int 2]
 else match r with
  | []=>.tup [.str (knd c),.str [c],.int 1]
  |d::s=>if c=91/\col d=true/\s.take 1=[93] then .tup [.str [105,110,107],.str [d],.int 3]
   else match s with
    | []=>.tup [.str (knd c),.str [c],.int 1]
    |e::u=>if c=91/\d=47/\col e=true/\u.take 1=[93] then .tup [.str [103,114,111,117,110,100],.str [e],.int 4] else .tup [.str (knd c),.str [c],.int 1]
theorem Qxv(c:Nat)(r:List Nat):rd4 c r=rd c r:=by
 by_cases i:c=10
 ·subst i
  match r with
  | []=>rfl
  | [d]=>simp[rd4,rd,rv,one,knd]
  |d::e::u=>simp[rd4,rd,rv,one,knd]
 by_cases k:c=9
 ·subst k
  match r with
  | []=>rfl
  | [d]=>simp[rd4,rd,rv,one,knd]
  |d::e::u=>simp[rd4,rd,rv,one,knd]
 by_cases h:c=91
 ·subst h
  match r with
  | []=>simp[rd4,rd,rv,one,cL,knd,bF]
  | [d] =>
   by_cases a:d=93
   ·simp[rd4,rd,rv,one,cL,knd,a,iC]
   by_cases b:d=91
   ·simp[rd4,rd,rv,one,cL,knd,a,b,bF]
   by_cases d3:col d=true<;>by_cases j:d=47<;>simp[rd4,rd,rv,one,cL,fU,fK,knd,a,b,d3,j,bF]
  | [d,e] =>
   by_cases a:d=93
   ·simp[rd4,rd,rv,one,cL,knd,a,iC]
   by_cases b:d=91
   ·simp[rd4,rd,rv,one,cL,knd,a,b,bF]
   by_cases d3:col d=true
   ·have n:=(mJ d3).2.2.1
    by_cases m:e=93<;>simp[rd4,rd,rv,one,cL,fU,knd,a,b,d3,n,m,bF,dM]
   by_cases j:d=47
   ·by_cases l:col e=true<;>simp[rd4,rd,rv,one,cL,fK,gQ,knd,a,b,d3,j,l,bF,iW]
   ·simp[rd4,rd,rv,one,cL,fU,fK,knd,a,b,d3,j,bF]
  |d::e::f::g =>
   by_cases a:d=93
   ·simp[rd4,rd,rv,one,cL,knd,a,iC]
   by_cases b:d=91
   ·simp[rd4,rd,rv,one,cL,knd,a,b,bF]
   by_cases d3:col d=true
   ·have n:=(mJ d3).2.2.1
    by_cases m:e=93<;>simp[rd4,rd,rv,one,cL,fU,knd,a,b,d3,n,m,bF,dM]
   by_cases j:d=47
   ·by_cases l:col e=true
    ·by_cases q:f=93<;>simp[rd4,rd,rv,one,cL,fK,gQ,knd,a,b,d3,j,l,q,bF,dX,iW]
    ·simp[rd4,rd,rv,one,cL,fK,gQ,knd,a,b,d3,j,l,bF,iW]
   ·simp[rd4,rd,rv,one,cL,fU,fK,knd,a,b,d3,j,bF]
 ·match r with
  | []=>simp[rd4,rd,rv,one,knd,bF,i,k,h]
  | [d]=>simp[rd4,rd,rv,one,knd,bF,i,k,h]
  |d::e::u=>simp[rd4,rd,rv,one,knd,bF,i,k,h]
theorem Qy2{a b:L2.M (Option Int)}{m:L2.M D}{ρ:aA}{O:aq}{t:List Nat}{x y:Option Int}(c:m ρ O=.ok (.str t) O)(d:a ρ O=.ok x O)(hb:b ρ O=.ok y O)(hz:t.length<=1000000):mSl m a b ρ O=.ok (.str (dU t x y)) O:=by
 rw[yQ,c,aV,d,aV,hb,aV,pC,Y4,if_pos (by omega),iR]
theorem NT{m:L2.M D}{ρ:aA}{O:aq}{i:Int}(h:m ρ O=.ok (.int i) O):moS m ρ O=.ok (some i) O:=by rw[uV,h,aV,J8]
theorem qx{a b:L2.M D}{ρ:aA}{O:aq}{i j:List Nat}(c:a ρ O=.ok (.str i) O)(hb:b ρ O=.ok (.str j) O):aB (ak gEq a b) ρ O=.ok (decide (i=j)) O:=fX (bD c hb rfl)
section
variable {t r:List Nat}{n c:Nat}{pre:List D}{O:aq}
theorem NZ(j:Nat):ak aM (aa 2) (mC (.int (j:Int))) [some (D.str t),some (D.lst pre),some (D.int (n:Int))] O=.ok (.int (((n+j:Nat)):Int)) O:=by
 rw[mR (i:=(n:Int)) (j:=(j:Int)) rfl rfl];congr 2
theorem FQ(hz:t.length<=1000000)(hd:t.drop n=c::r)(i j:Nat){a b:L2.M (Option Int)}(d:a [some (D.str t),some (D.lst pre),some (D.int (n:Int))] O=.ok (some ((n+i:Nat):Int)) O)(hb:b [some (D.str t),some (D.lst pre),some (D.int (n:Int))] O=.ok (some ((n+j:Nat):Int)) O):mSl (aa 0) a b [some (D.str t),some (D.lst pre),some (D.int (n:Int))] O=.ok (.str (((c::r).drop i).take (j - i))) O:=by
 rw[Qy2 (t:=t) rfl d hb hz,Nf,NP hd,show n+j - (n+i)=j - i by omega]
theorem QAi:moS (aa 2) [some (D.str t),some (D.lst pre),some (D.int (n:Int))] O=.ok (some ((n+0:Nat):Int)) O:=NT rfl
theorem tR(j:Nat):moS (ak aM (aa 2) (mC (.int (j:Int)))) [some (D.str t),some (D.lst pre),some (D.int (n:Int))] O=.ok (some ((n+j:Nat):Int)) O:=NT (NZ j)
theorem FT(hz:t.length<=1000000)(hd:t.drop n=c::r):ak gIx (aa 0) (aa 2) [some (D.str t),some (D.lst pre),some (D.int (n:Int))] O=.ok (.str [c]) O:=bD (x:=.str t) (y:=.int (n:Int)) rfl rfl (by
 have:=NQ (n:=n) (j:=0) hz (x:=c) (s:=r) hd
 rw[show((n:Int)+((0:Nat):Int))=(n:Int) by simp] at this
 exact this)
theorem N5(hz:t.length<=1000000)(hd:t.drop n=c::r)(j:Nat){x:Nat}{s:List Nat}(a:(c::r).drop j=x::s):ak gIx (aa 0) (ak aM (aa 2) (mC (.int (j:Int)))) [some (D.str t),some (D.lst pre),some (D.int (n:Int))] O=.ok (.str [x]) O:=bD (x:=.str t) (y:=.int ((n+j:Nat):Int)) rfl (NZ j) (by
 have:=NQ (n:=n) (j:=j) hz (x:=x) (s:=s) (by rw[NP hd];exact a)
 rw[show((n:Int)+(j:Int))=((n+j:Nat):Int) by push_cast;rfl] at this
 exact this)
theorem tU{a b z:L2.M D}{x y w:D}(g:a [some (D.str t),some (D.lst pre),some (D.int (n:Int))] O=.ok x O)(hb:b [some (D.str t),some (D.lst pre),some (D.int (n:Int))] O=.ok y O)(f:z [some (D.str t),some (D.lst pre),some (D.int (n:Int))] O=.ok w O)(d:pre.length<1000000):cO 1 (bT (aj a (aj b (aj z au)))) [some (D.str t),some (D.lst pre),some (D.int (n:Int))] O=.nx [some (D.str t),some (D.lst (pre++[.tup [x,y,w]])),some (D.int (n:Int))] O :=
 tQ (qg (maS g (maS hb (ma1 f))) (show(3:Nat)<=1000000 by decide)) rfl d
theorem QrM(hz:t.length<=1000000)(m:pre.length<1000000)(hd:t.drop n=c::r):bR [some (D.str t),some (D.lst pre),some (D.int (n:Int))] O=.nx [some (D.str t),some (D.lst (pre++[rd4 c r])),some (D.int (n:Int))] O:=by
 have B:∀q,aB (ak gEq (mSl (aa 0) (moS (aa 2)) (moS (ak aM (aa 2) (mC (.int 2))))) (mC (.str q))) [some (D.str t),some (D.lst pre),some (D.int (n:Int))] O=.ok (decide ((c::r).take 2=q)) O:=λq=>qx (FQ hz hd 0 2 QAi (tR 2)) rfl
 have H:aB (ak gEq (ak gIx (aa 0) (aa 2)) (mC (.str [91]))) [some (D.str t),some (D.lst pre),some (D.int (n:Int))] O=.ok (decide ([c]=[91])) O:=qx (FT hz hd) rfl
 have h:∀i:Nat,∀l,((c::r).drop i).take 1=l->bW (aJ eV (aj (mSl (aa 0) (moS (ak aM (aa 2) (mC (.int (i:Int))))) (moS (ak aM (aa 2) (mC (.int ((i+1:Nat):Int)))))) au)) [some (D.str t),some (D.lst pre),some (D.int (n:Int))] O=.ok (match l with | [x]=>col x | _=>false) O:=λi l E=>by
  have q:=FQ (O:=O) (pre:=pre) hz hd i (i+1) (tR i) (tR (i+1));rw[show i+1 - i=1 by omega,E] at q;rw[rZ,cF (ma1 q)]
  match l,E with
  | [],_=>rw[Qvr];rfl
  | [x],_=>rw[Qv2];rfl
  |x::y::l,E =>
   have:=congrArg List.length E
   rw[List.length_take] at this;simp only[zo] at this;omega
 have G:∀i:Nat,aB (ak gEq (mSl (aa 0) (moS (ak aM (aa 2) (mC (.int (i:Int))))) (moS (ak aM (aa 2) (mC (.int ((i+1:Nat):Int)))))) (mC (.str [93]))) [some (D.str t),some (D.lst pre),some (D.int (n:Int))] O=.ok (decide (((c::r).drop i).take 1=[93])) O:=λi=>by
  have q:=FQ (O:=O) (pre:=pre) hz hd i (i+1) (tR i) (tR (i+1));rw[show i+1 - i=1 by omega] at q;exact qx q rfl
 have last:cO 1 (bT (aj wG (aj (ak gIx (aa 0) (aa 2)) (aj (mC (.int 1)) au)))) [some (D.str t),some (D.lst pre),some (D.int (n:Int))] O=.nx [some (D.str t),some (D.lst (pre++[.tup [.str (knd c),.str [c],.int 1]])),some (D.int (n:Int))] O:=tU (Qw7 (FT hz hd)) (FT hz hd) rfl m;unfold bR rd4
 by_cases h1:(c::r).take 2=[91,91]
 ·rw[jx (by rw[B,zl h1]),if_pos h1];exact tU rfl rfl rfl m
 rw[gn (by rw[B,zd h1]),if_neg h1]
 by_cases h2:(c::r).take 2=[91,93]
 ·rw[jx (by rw[B,zl h2]),if_pos h2];exact tU rfl rfl rfl m
 rw[gn (by rw[B,zd h2]),if_neg h2];have a1:=h 1;have a2:=h 2;have F:=G 2;have j:=G 3;have g:=B [91,47]
 match r,hd,h1,h2,a1,a2,F,j,last,g with
 | [],hd,h1,h2,a1,a2,F,j,last,g =>
  have C:cD (aB (ak gEq (ak gIx (aa 0) (aa 2)) (mC (.str [91])))) (cD (bW (aJ eV (aj (mSl (aa 0) (moS (ak aM (aa 2) (mC (.int 1)))) (moS (ak aM (aa 2) (mC (.int 2))))) au))) (aB (ak gEq (mSl (aa 0) (moS (ak aM (aa 2) (mC (.int 2)))) (moS (ak aM (aa 2) (mC (.int 3))))) (mC (.str [93]))))) [some (D.str t),some (D.lst pre),some (D.int (n:Int))] O=.ok false O:=by
   have a:=a1 [] rfl;rw[fQ,H,aV]
   by_cases f:[c]=[91]
   ·rw[zl f,if_pos rfl,fQ];rw[show bW (aJ eV (aj (mSl (aa 0) (moS (ak aM (aa 2) (mC (.int 1)))) (moS (ak aM (aa 2) (mC (.int 2))))) au)) [some (D.str t),some (D.lst pre),some (D.int (n:Int))] O=.ok false O from a,aV];rfl
   ·rw[zd f];rfl
  have k:cD (aB (ak gEq (mSl (aa 0) (moS (aa 2)) (moS (ak aM (aa 2) (mC (.int 2))))) (mC (.str [91,47])))) (cD (bW (aJ eV (aj (mSl (aa 0) (moS (ak aM (aa 2) (mC (.int 2)))) (moS (ak aM (aa 2) (mC (.int 3))))) au))) (aB (ak gEq (mSl (aa 0) (moS (ak aM (aa 2) (mC (.int 3)))) (moS (ak aM (aa 2) (mC (.int 4))))) (mC (.str [93]))))) [some (D.str t),some (D.lst pre),some (D.int (n:Int))] O=.ok false O:=by
   rw[fQ,g,aV,zd (show ¬List.take 2 [c]=[91,47] from λz=>by cases z)];rfl
  rw[gn C,gn k];exact last
 |d::s,hd,h1,h2,a1,a2,F,j,last,g =>
  have C:cD (aB (ak gEq (ak gIx (aa 0) (aa 2)) (mC (.str [91])))) (cD (bW (aJ eV (aj (mSl (aa 0) (moS (ak aM (aa 2) (mC (.int 1)))) (moS (ak aM (aa 2) (mC (.int 2))))) au))) (aB (ak gEq (mSl (aa 0) (moS (ak aM (aa 2) (mC (.int 2)))) (moS (ak aM (aa 2) (mC (.int 3))))) (mC (.str [93]))))) [some (D.str t),some (D.lst pre),some (D.int (n:Int))] O=.ok (decide (c=91/\col d=true/\s.take 1=[93])) O:=by
   have a:bW (aJ eV (aj (mSl (aa 0) (moS (ak aM (aa 2) (mC (.int 1)))) (moS (ak aM (aa 2) (mC (.int 2))))) au)) [some (D.str t),some (D.lst pre),some (D.int (n:Int))] O=.ok (col d) O:=a1 [d] rfl;have b:aB (ak gEq (mSl (aa 0) (moS (ak aM (aa 2) (mC (.int 2)))) (moS (ak aM (aa 2) (mC (.int 3))))) (mC (.str [93]))) [some (D.str t),some (D.lst pre),some (D.int (n:Int))] O=.ok (decide (s.take 1=[93])) O:=F;rw[fQ,H,aV]
   by_cases f:c=91
   ·subst f;rw[zl rfl,if_pos rfl,fQ,a,aV]
    cases hcd:col d with
    |true =>
     rw[if_pos rfl,b];simp
    |false=>simp
   ·rw[zd (λz=>f (List.cons.inj z).1)];simp[f]
  by_cases h3:c=91/\col d=true/\s.take 1=[93]
  ·rw[jx (by rw[C,zl h3])];dsimp only;rw[if_pos h3];exact tU rfl (N5 hz hd 1 (x:=d) (s:=s) rfl) rfl m
  ·rw[gn (by rw[C,zd h3])];dsimp only;rw[if_neg h3]
   match s,hd,a2,j,g,last with
   | [],hd,a2,j,g,last =>
    have k:cD (aB (ak gEq (mSl (aa 0) (moS (aa 2)) (moS (ak aM (aa 2) (mC (.int 2))))) (mC (.str [91,47])))) (cD (bW (aJ eV (aj (mSl (aa 0) (moS (ak aM (aa 2) (mC (.int 2)))) (moS (ak aM (aa 2) (mC (.int 3))))) au))) (aB (ak gEq (mSl (aa 0) (moS (ak aM (aa 2) (mC (.int 3)))) (moS (ak aM (aa 2) (mC (.int 4))))) (mC (.str [93]))))) [some (D.str t),some (D.lst pre),some (D.int (n:Int))] O=.ok false O:=by
     have a:bW (aJ eV (aj (mSl (aa 0) (moS (ak aM (aa 2) (mC (.int 2)))) (moS (ak aM (aa 2) (mC (.int 3))))) au)) [some (D.str t),some (D.lst pre),some (D.int (n:Int))] O=.ok false O:=a2 [] rfl;rw[fQ,g,aV]
     by_cases f:List.take 2 [c,d]=[91,47]
     ·rw[zl f,if_pos rfl,fQ,a,aV];rfl
     ·rw[zd f];rfl
    rw[gn k];exact last
   |e::u,hd,a2,j,g,last =>
    have k:cD (aB (ak gEq (mSl (aa 0) (moS (aa 2)) (moS (ak aM (aa 2) (mC (.int 2))))) (mC (.str [91,47])))) (cD (bW (aJ eV (aj (mSl (aa 0) (moS (ak aM (aa 2) (mC (.int 2)))) (moS (ak aM (aa 2) (mC (.int 3))))) au))) (aB (ak gEq (mSl (aa 0) (moS (ak aM (aa 2) (mC (.int 3)))) (moS (ak aM (aa 2) (mC (.int 4))))) (mC (.str [93]))))) [some (D.str t),some (D.lst pre),some (D.int (n:Int))] O=.ok (decide (c=91/\d=47/\col e=true/\u.take 1=[93])) O:=by
     have a:bW (aJ eV (aj (mSl (aa 0) (moS (ak aM (aa 2) (mC (.int 2)))) (moS (ak aM (aa 2) (mC (.int 3))))) au)) [some (D.str t),some (D.lst pre),some (D.int (n:Int))] O=.ok (col e) O:=a2 [e] rfl;have b:aB (ak gEq (mSl (aa 0) (moS (ak aM (aa 2) (mC (.int 3)))) (moS (ak aM (aa 2) (mC (.int 4))))) (mC (.str [93]))) [some (D.str t),some (D.lst pre),some (D.int (n:Int))] O=.ok (decide (u.take 1=[93])) O:=j;rw[fQ,g,aV]
     by_cases f:c=91/\d=47
     ·obtain⟨rfl,rfl⟩:=f;rw[zl (show List.take 2 (91::47::e::u)=[91,47] from rfl),if_pos rfl,fQ,a,aV]
      cases hcd:col e with
      |true =>
       rw[if_pos rfl,b];simp
      |false=>simp
     ·rw[zd (show ¬List.take 2 (c::d::e::u)=[91,47] from λz=>f ⟨(List.cons.inj z).1,(List.cons.inj (List.cons.inj z).2).1⟩)]
      have:¬(c=91/\d=47/\col e=true/\u.take 1=[93]):=λz=>f ⟨z.1,z.2.1⟩
      rw[zd this];rfl
    by_cases h4:c=91/\d=47/\col e=true/\u.take 1=[93]
    ·rw[jx (by rw[k,zl h4])];dsimp only;rw[if_pos h4];exact tU rfl (N5 hz hd 2 (x:=e) (s:=u) rfl) rfl m
    ·rw[gn (by rw[k,zd h4])];dsimp only;rw[if_neg h4];exact last
end
def lrf:Nat->List Nat->List D
 | 0,_=>[]
 | _+1,[]=>[]
 |n+1,c::r=>rd c r::lrf n (r.drop (one c r).2.2)
theorem FW:∀(n m:Nat) (t:List Nat),t.length<=n->t.length<=m->lrf n t=lrf m t
 | 0,m,t,h,_=>by
  cases t with
  |nil=>cases m<;>rfl
  |cons c t=>simp at h
 |n+1,0,t,_,h=>by
  cases t with
  |nil=>rfl
  |cons c t=>simp at h
 |n+1,m+1,[],_,_=>rfl
 |n+1,m+1,c::r,h,h'=>by
  simp only[zo] at h h';show rd c r::_=rd c r::_;rw[FW n m _ (by rw[List.length_drop];omega) (by rw[List.length_drop];omega)]
theorem Qvb{pre:List D}{x:D}:gIx (.lst (pre++[x])) (.int (-1))=some x:=by
 rw[uW]
 have q:atI (pre++[x]) (-1)=(pre++[x])[pre.length]?:=by
  have z:ixN (pre++[x]).length (-1)=some pre.length:=by
   unfold ixN;rw[zu,jd,if_neg (by omega),if_pos (by omega)];congr 1;omega
  unfold atI;rw[z];rfl
 rw[q,zK (zc _),Nat.sub_self];rfl
theorem QqH(t:List Nat)(E:t.length<=5000)(O:aq):Er [.str t] O=.ok (.lst (lrf t.length t)) O:=by
 obtain⟨C,d,e,rfl,pre,a,rfl,h1,h2,h3,h4⟩:=KH (t:=aB (ak gLt (aa 2) (bx bY (aj (aa 0) au))))
  (b:=aC bR (aK 2 (ak aM (aa 2) (ak gIx (ak gIx (aa 1) (mUn lW (mC (.int 1)))) (mC (.int 2))))))
  (λk ρ d=>d=O/\∃(pre:List D) (a:Nat),ρ=[some (.str t),some (.lst pre),some (.int a)]/\a<=t.length/\k=t.length - a/\pre++lrf (t.length - a) (t.drop a)=lrf t.length t/\pre.length<=a)
  wF t.length [some (.str t),some (.lst []),some (.int 0)] O (by unfold wF;omega) ⟨rfl,[],0,rfl,Nat.zero_le _,by omega,by simp,by simp⟩ (by
   rintro k ρ d ⟨rfl,pre,a,rfl,h1,h2,h3,h4⟩
   have g:t.length<=1000000:=by omega
   have f:a<t.length:=by omega
   refine⟨by simp[g,f],?_⟩
   cases hd:t.drop a with
   |nil =>
    have:=congrArg List.length hd
    simp at this
    omega
   |cons c r =>
    have B:=congrArg List.length hd;simp at B;have F:=one_le c r;have h:=QrM (O:=d) (n:=a) g (show pre.length<1000000 by omega) hd;rw[Qxv] at h;refine⟨t.length - (a+((one c r).2.2+1)),[some (.str t),some (.lst (pre++[rd c r])),some (.int ((a+((one c r).2.2+1):Nat):Int))],d,by omega,?_,rfl,_,_,rfl,by omega,rfl,?_,?_⟩
    ·rw[dY h];refine cG ?_;refine(mR (i:=(a:Int)) (j:=(((one c r).2.2+1:Nat):Int)) rfl ?_).trans ?_
     ·refine bD (x:=rd c r) (y:=.int 2) (bD (x:=.lst (pre++[rd c r])) (y:=.int (-1)) rfl rfl Qvb) rfl ?_;rfl
     ·congr 2
    ·have q:t.drop (a+((one c r).2.2+1))=r.drop (one c r).2.2:=by
      rw[<-List.drop_drop,hd,Nat.add_comm,<-List.drop_drop];rfl
     rw[q,<-h3,hd,zB];congr 1;obtain⟨m,u⟩:∃m,t.length - a=m+1:=⟨t.length - a - 1,by omega⟩;rw[u];show[rd c r]++_=rd c r::lrf m (r.drop (one c r).2.2);rw[FW (t.length - (a+((one c r).2.2+1))) m _ (by rw[List.length_drop];omega) (by rw[List.length_drop];omega)];rfl
    ·simp
     omega) (by
   rintro ρ d ⟨rfl,pre,a,rfl,h1,h2,h3,h4⟩
   have g:t.length<=1000000:=by omega
   have f:t.length<=a:=by omega
   simp[g,f])
 have hd:t.drop a=[]:=List.drop_eq_nil_of_le (by omega)
 have l:lrf (t.length - a) (t.drop a)=[]:=by
  rw[hd]
  cases t.length - a<;>rfl
 rw[l,zU] at h3;subst h3;show bA (v7 [some (.str t),none,none] d)=_;unfold v7;rw[dY (show aK 1 (bV au) [some (.str t),none,none] d=.nx [some (.str t),some (.lst []),none] d from rfl),dY (show aK 2 (mC (.int 0)) [some (.str t),some (.lst []),none] d=.nx [some (.str t),some (.lst []),some (.int 0)] d from rfl)];show bA (aC (iK wF (aB (ak gLt (aa 2) (bx bY (aj (aa 0) au)))) (aC bR (aK 2 (ak aM (aa 2) (ak gIx (ak gIx (aa 1) (mUn lW (mC (.int 1)))) (mC (.int 2))))))) (aO (aa 1)) [some (.str t),some (.lst []),some (.int 0)] d)=_;rw[dY (show iK wF _ _ [some (.str t),some (.lst []),some (.int 0)] d=_ from e)]
 rfl
def bS:MS:=(aC (aX (cB (aB (ak gEq (aa 4) (mC (.str [101,110,100])))) (aB (ak gEq (aa 4) (mC (.str [97,110,101,119]))))) (aO (mG (mC .non))) bc)
  (aC (aX (aB (ak gEq (aa 4) (mC (.str [115,105,103,110])))) (cO 1 (bT (aj (aa 5) (aj (ak gIx (bV (aj (aa 2) (aj (mC (.str [46])) au))) (bx jL (aj (ak gEq (aa 5) (mC (.str [32]))) au))) (aj (aa 3) au))))) bc)
  (aC (aX (aB (ak gEq (aa 4) (mC (.str [105,110,107])))) (aK 2 (aa 5)) bc)
  (aC (aX (aB (ak gEq (aa 4) (mC (.str [103,114,111,117,110,100])))) (aK 3 (aa 5)) bc)
  (aX (aB (ak gEq (aa 4) (mC (.str [112,108,97,105,110])))) (aC (aK 2 (mC (.str [46])))
  (aK 3 (mC (.str [46])))) bc)))))
def gS:MG:=gG 3 (cX (mgN 4) (cX (mgN 5) (cX (mgN 6) iw)))
theorem FZ{k q:List Nat}{g f d c b a:Option D}{O:aq}:aB (ak gEq (aa 4) (mC (.str q))) [g,f,d,c,some (.str k),b,a] O=.ok (decide (k=q)) O:=qx rfl rfl
theorem Qxb{k:List Nat}(h:k=fC\/k=fD)(g f d c b a:Option D)(O:aq):bS [g,f,d,c,some (.str k),b,a] O=.rt .non O:=by
 unfold bS
 rcases h with rfl | rfl
 ·rfl
 ·rfl
def isK(k:List Nat):Prop:=k=fC\/k=fD\/k=bF\/k=dM\/k=dX\/k=iC
theorem QzH{k:List Nat}(c:¬(k=fC\/k=fD))(n:isK k)(v i g:List Nat)(acc:List D)(m:acc.length<1000000)(b a:Option D)(O:aq):bS [b,some (.lst acc),some (.str i),some (.str g),some (.str k),some (.str v),a] O =
  .nx [b,some (.lst (mV k v i g acc)),some (.str (pbh i g k v).1),some (.str (pbh i g k v).2),some (.str k),some (.str v),a] O:=by
 have f:cO 1 (bT (aj (aa 5) (aj (ak gIx (bV (aj (aa 2) (aj (mC (.str [46])) au))) (bx jL (aj (ak gEq (aa 5) (mC (.str [32]))) au))) (aj (aa 3) au)))) [b,some (.lst acc),some (.str i),some (.str g),some (.str k),some (.str v),a] O =
   .nx [b,some (.lst (acc++[.tup [.str v,.str (shI v i),.str g]])),some (.str i),some (.str g),some (.str k),some (.str v),a] O:=by
  refine tQ (d:=.tup [.str v,.str (shI v i),.str g]) (qg (maS (x:=.str v) rfl (maS (x:=.str (shI v i)) ?_ (ma1 (x:=.str g) rfl))) (show(3:Nat)<=1000000 by decide)) rfl m;unfold shI
  by_cases h:v=[32]
  ·subst h;rw[if_pos rfl];rfl
  ·rw[if_neg h];refine bD (x:=.lst [.str i,.str [46]]) (y:=.int 0) rfl (ou (xs:=[.bl false]) (ma1 (bD (x:=.str v) (y:=.str [32]) rfl rfl ?_)) rfl) rfl;show some (D.bl (decide (v=[32])))=_;rw[zd h]
 have l:¬k=[101,110,100]:=λz=>c (.inl z)
 have j:¬k=[97,110,101,119]:=λz=>c (.inr z)
 unfold bS;rw[dY (show aX (cB (aB (ak gEq (aa 4) (mC (.str [101,110,100])))) (aB (ak gEq (aa 4) (mC (.str [97,110,101,119]))))) (aO (mG (mC .non))) bc [b,some (.lst acc),some (.str i),some (.str g),some (.str k),some (.str v),a] O=.nx [b,some (.lst acc),some (.str i),some (.str g),some (.str k),some (.str v),a] O from gn (by rw[iU,FZ,aV,zd l,FZ,zd j];rfl))]
 rcases n with rfl | rfl | rfl | rfl | rfl | rfl
 ·exact absurd (.inl rfl) c
 ·exact absurd (.inr rfl) c
 ·rw[dY (show aX (aB (ak gEq (aa 4) (mC (.str [115,105,103,110])))) (cO 1 (bT (aj (aa 5) (aj (ak gIx (bV (aj (aa 2) (aj (mC (.str [46])) au))) (bx jL (aj (ak gEq (aa 5) (mC (.str [32]))) au))) (aj (aa 3) au))))) bc [b,some (.lst acc),some (.str i),some (.str g),some (.str bF),some (.str v),a] O=_ from(jx FZ).trans f)];rfl
 ·rfl
 ·rfl
 ·rfl
theorem Qwm(c:Nat)(r:List Nat):isK (one c r).1:=by
 unfold isK one
 split
 ·exact .inl rfl
 split
 ·exact .inr (.inl rfl)
 split
 ·unfold cL
  cases r with
  |nil=>exact .inr (.inr (.inl rfl))
  |cons d r =>
   dsimp only
   split
   ·exact .inr (.inr (.inr (.inr (.inr rfl))))
   split
   ·exact .inr (.inr (.inl rfl))
   split
   ·unfold fU
    cases r with
    |nil=>exact .inr (.inr (.inl rfl))
    |cons e r =>
     dsimp only
     split
     ·exact .inr (.inr (.inr (.inl rfl)))
     ·exact .inr (.inr (.inl rfl))
   split
   ·unfold fK
    cases r with
    |nil=>exact .inr (.inr (.inl rfl))
    |cons e r =>
     dsimp only
     split
     ·unfold gQ
      cases r with
      |nil=>exact .inr (.inr (.inl rfl))
      |cons f r =>
       dsimp only
       split
       ·exact .inr (.inr (.inr (.inr (.inl rfl))))
       ·exact .inr (.inr (.inl rfl))
     ·exact .inr (.inr (.inl rfl))
   ·exact .inr (.inr (.inl rfl))
 ·exact .inr (.inr (.inl rfl))
theorem Qy8(c:Nat)(r:List Nat)(h:¬((one c r).1=fC\/(one c r).1=fD)):rv c r=(one c r).2.1:=by
 unfold rv;rw[if_neg];rintro(rfl | rfl)
 ·exact h (.inl rfl)
 ·exact h (.inr rfl)
theorem N6(j:Option D)(O:aq):∀(n:Nat) (t:List Nat) (i g:List Nat) (acc:List D) (h d b:Option D),acc.length+n<=100000 ->
  (bO gS bS (lrf n t) [j,some (.lst acc),some (.str i),some (.str g),h,d,b] O=.rt .non O/\shF (kvf n t) i g acc=none) \/
  ∃u g' a q m l,bO gS bS (lrf n t) [j,some (.lst acc),some (.str i),some (.str g),h,d,b] O=.nx [j,some (.lst a),some (.str u),some (.str g'),q,m,l] O/\shF (kvf n t) i g acc=shF [] u g' a
 | 0,t,i,g,acc,h,d,b,_=>.inr ⟨i,g,acc,h,d,b,rfl,rfl⟩
 |n+1,[],i,g,acc,h,d,b,_=>.inr ⟨i,g,acc,h,d,b,rfl,rfl⟩
 |n+1,c::r,i,g,acc,h,d,b,hl=>by
  have st:∀f,bS [j,some (.lst acc),some (.str i),some (.str g),some (.str (one c r).1),some (.str (rv c r)),some (.int ((one c r).2.2+1:Nat))] O=f->bO gS bS (lrf (n+1) (c::r)) [j,some (.lst acc),some (.str i),some (.str g),h,d,b] O=(match f with
    | .nx ρ2 O2=>bO gS bS (lrf n (r.drop (one c r).2.2)) ρ2 O2
    | .ct ρ2 O2=>bO gS bS (lrf n (r.drop (one c r).2.2)) ρ2 O2
    | .bk ρ2 O2=>.nx ρ2 O2
    |f=>f):=λf e=>by
   subst e;rfl
  by_cases k:(one c r).1=fC\/(one c r).1=fD
  ·refine .inl ⟨st _ (Qxb k _ _ _ _ _ _ O),?_⟩;show(if(one c r).1=fC\/(one c r).1=fD then none else _)=_;rw[if_pos k]
  ·have ll:=Ny (one c r).1 (rv c r) i g acc;have e:=st _ (QzH k (Qwm c r) (rv c r) i g acc (by omega) j _ O);have x:=qw k (kvf n (r.drop (one c r).2.2)) (v:=(one c r).2.1) i g acc;rw[e];show _\/∃u g' a q m l,_/\shF (((one c r).1,(one c r).2.1)::kvf n (r.drop (one c r).2.2)) i g acc=_;rw[show shF (kvf (n+1) (c::r)) i g acc=shF (((one c r).1,(one c r).2.1)::kvf n (r.drop (one c r).2.2)) i g acc from rfl,x,<-Qy8 c r k];exact N6 j O n _ _ _ _ _ _ _ (by omega)
theorem Qo0(n:Nat)(t:List Nat)(m:n<=5000)(O:aq):Eu [.lst (lrf n t)] O=.ok (Nx (shF (kvf n t) [46] [46] [])) O:=by
 show bA (v9 [some (.lst (lrf n t)),none,none,none,none,none,none] O)=_;unfold v9
 rw[dY (show aK 1 (bV au) [some (.lst (lrf n t)),none,none,none,none,none,none] O=.nx [some (.lst (lrf n t)),some (.lst []),none,none,none,none,none] O from rfl),
  dY (show aK 2 (mC (.str [46])) [some (.lst (lrf n t)),some (.lst []),none,none,none,none,none] O=.nx [some (.lst (lrf n t)),some (.lst []),some (.str [46]),none,none,none,none] O from rfl),
  dY (show aK 3 (mC (.str [46])) [some (.lst (lrf n t)),some (.lst []),some (.str [46]),none,none,none,none] O=.nx [some (.lst (lrf n t)),some (.lst []),some (.str [46]),some (.str [46]),none,none,none] O from rfl)]
 have l:∀f,bO gS bS (lrf n t) [some (.lst (lrf n t)),some (.lst []),some (.str [46]),some (.str [46]),none,none,none] O=f->cY (cR (aa 0)) gS bS [some (.lst (lrf n t)),some (.lst []),some (.str [46]),some (.str [46]),none,none,none] O=f:=λf e=>(KY (show cR (aa 0) _ O=.ok (lrf n t) O from rfl)).trans e
 show bA (aC (cY (cR (aa 0)) gS bS) (aC (aX (cB (aB (ak gNe (aa 2) (mC (.str [46])))) (aB (ak gNe (aa 3) (mC (.str [46]))))) (aO (mG (mC .non))) bc) (aO (aa 1))) [some (.lst (lrf n t)),some (.lst []),some (.str [46]),some (.str [46]),none,none,none] O)=_
 rcases N6 (some (.lst (lrf n t))) O n t [46] [46] [] none none none (by rw[zJ];omega) with⟨j,i⟩ | ⟨b,c,a,h,g,d,j,i⟩
 ·rw[sO (l _ j),i];rfl
 ·rw[dY (l _ j),i];have t1:aB (ak gNe (aa 2) (mC (.str [46]))) [some (.lst (lrf n t)),some (.lst a),some (.str b),some (.str c),h,g,d] O=.ok (!decide (b=[46])) O:=fX (bD (x:=.str b) (y:=.str [46]) rfl rfl rfl);have t2:aB (ak gNe (aa 3) (mC (.str [46]))) [some (.lst (lrf n t)),some (.lst a),some (.str b),some (.str c),h,g,d] O=.ok (!decide (c=[46])) O:=fX (bD (x:=.str c) (y:=.str [46]) rfl rfl rfl);have k:shF [] b c a=if b=[46]/\c=[46] then some a else none:=rfl;rw[k]
  by_cases h1:b=[46]
  ·by_cases h2:c=[46]
   ·rw[if_pos ⟨h1,h2⟩,dY (show aX (cB (aB (ak gNe (aa 2) (mC (.str [46])))) (aB (ak gNe (aa 3) (mC (.str [46]))))) (aO (mG (mC .non))) bc [some (.lst (lrf n t)),some (.lst a),some (.str b),some (.str c),h,g,d] O=.nx [some (.lst (lrf n t)),some (.lst a),some (.str b),some (.str c),h,g,d] O from gn (by rw[iU,t1,aV,zl h1,t2,zl h2];rfl))];rfl
   ·rw[if_neg (λz=>h2 z.2),sO (show aX (cB (aB (ak gNe (aa 2) (mC (.str [46])))) (aB (ak gNe (aa 3) (mC (.str [46]))))) (aO (mG (mC .non))) bc [some (.lst (lrf n t)),some (.lst a),some (.str b),some (.str c),h,g,d] O=.rt .non O from(jx (by rw[iU,t1,aV,zl h1,t2,zd h2];rfl)).trans rfl)];rfl
  ·rw[if_neg (λz=>h1 z.1),sO (show aX (cB (aB (ak gNe (aa 2) (mC (.str [46])))) (aB (ak gNe (aa 3) (mC (.str [46]))))) (aO (mG (mC .non))) bc [some (.lst (lrf n t)),some (.lst a),some (.str b),some (.str c),h,g,d] O=.rt .non O from(jx (by rw[iU,t1,aV,zd h1];rfl)).trans rfl)];rfl
def N7(d:D):Prop:=∃a b c,d=.tup [.str a,.str b,.str c]/\asc a/\asc b/\asc c
theorem Qxt{a b c:List Nat}(g:asc a)(hb:asc b)(f:asc c):okE (.tup [.str a,.str b,.str c])=true:=by
 unfold okE;show(true&&okD (.tuple [.str (S a),.str (S b),.str (S c)]))=true;unfold okD
 rw[show(PyData.tuple [.str (S a),.str (S b),.str (S c)]).canLay0=true by
  show((PyData.str (S a)).canLay0&&((PyData.str (S b)).canLay0&&((PyData.str (S c)).canLay0&&true)))=true;rw[pH λx d=>Nat.lt_trans (g x d) (by decide),pH λx d=>Nat.lt_trans (hb x d) (by decide),pH λx d=>Nat.lt_trans (f x d) (by decide)]
  rfl]
 rfl
theorem Qzc{i j:List D}:gNe (.tup i) (.tup j)=if(okE (.tup i)&&okE (.tup j))=true then some (.bl (!jK (.tup i) (.tup j))) else none:=rfl
theorem zip_get{xs:List D}{i:Nat}{d:D}(h:(fJ xs xs)[i]?=some d):∃x,x∈xs/\d=.tup [x,x]:=by
 induction xs generalizing i with
 |nil=>cases h
 |cons x xs ih =>
  cases i with
  |zero =>
   have h':some (D.tup [x,x])=some d:=h;cases h';exact⟨x,zg,rfl⟩
  |succ i =>
   obtain⟨y,a,e⟩:=ih (i:=i) h;exact⟨y,zn _ a,e⟩
theorem QxI(xs:List D)(n:∀d∈xs,N7 d)(O:aq):jZ [.lst xs,.lst xs] O=.ok (.bl true) O:=by
 obtain⟨B,h,u,rfl,k,j,rfl⟩:=pG (g:=gG 2 (cX (mgN 2) (cX (mgN 3) iw))) (b:=aX (cB (dw (bW (gk "tuple" (aa 2)))) (cB (aB (ak gNe (bx bY (aj (aa 2) au)) (mC (.int 3)))) (aB (ak gNe (aa 2) (aa 3))))) (aO (mC (.bl false))) bc)
  (λi ρ f=>f=O/\∃k j,ρ=[some (.lst xs),some (.lst xs),k,j]) (fJ xs xs) 0 [some (.lst xs),some (.lst xs),none,none] O ⟨rfl,none,none,rfl⟩ (by
   rintro i d ρ f hi ⟨rfl,k,j,rfl⟩;obtain⟨x,m,rfl⟩:=zip_get hi;obtain⟨a,b,c,rfl,t,r,q⟩:=n x m;refine⟨_,rfl,_,_,.inl ?_,rfl,some (.tup [.str a,.str b,.str c]),some (.tup [.str a,.str b,.str c]),rfl⟩;have ok:=Qxt t r q
   have ne:gNe (.tup [.str a,.str b,.str c]) (.tup [.str a,.str b,.str c])=some (.bl false):=by
    rw[Qzc,ok,Bool.and_self,if_pos rfl,yX ok];rfl
   refine(gn ?_).trans rfl;show cB (dw (bW (gk "tuple" (aa 2)))) (cB (aB (ak gNe (bx bY (aj (aa 2) au)) (mC (.int 3)))) (aB (ak gNe (aa 2) (aa 3)))) [some (.lst xs),some (.lst xs),some (.tup [.str a,.str b,.str c]),some (.tup [.str a,.str b,.str c])] f=.ok false f;rw[iU,show dw (bW (gk "tuple" (aa 2))) [some (.lst xs),some (.lst xs),some (.tup [.str a,.str b,.str c]),some (.tup [.str a,.str b,.str c])] f=.ok false f from rfl,aV,if_neg zf];rw[iU,show aB (ak gNe (bx bY (aj (aa 2) au)) (mC (.int 3))) [some (.lst xs),some (.lst xs),some (.tup [.str a,.str b,.str c]),some (.tup [.str a,.str b,.str c])] f=.ok false f from rfl,aV,if_neg zf]
   exact fX (bD (x:=.tup [.str a,.str b,.str c]) (y:=.tup [.str a,.str b,.str c]) rfl rfl ne))
 show bA (wg [some (.lst xs),some (.lst xs),none,none] h)=_;unfold wg
 rw[dY (show aX (cB (dw (bW (gk "list" (aa 0)))) (aB (ak gNe (bx bY (aj (aa 0) au)) (bx bY (aj (aa 1) au))))) (aO (mC (.bl false))) bc [some (.lst xs),some (.lst xs),none,none] h=.nx [some (.lst xs),some (.lst xs),none,none] h from gn (by
  rw[iU,show dw (bW (gk "list" (aa 0))) [some (.lst xs),some (.lst xs),none,none] h=.ok false h from rfl,aV,if_neg zf];refine fX (bD (oA (l:=xs) rfl) (oA (l:=xs) rfl) ?_);show some (D.bl (!decide ((xs.length:Int)=(xs.length:Int))))=_;rw[zl rfl]
  rfl)),dY ((KY (show rM (aa 0) (aa 1) [some (.lst xs),some (.lst xs),none,none] h=.ok (fJ xs xs) h from rfl)).trans u)]
 rfl
theorem sq{a b:MS}{ρ c:aA}{O d:aq}(h:a ρ O=.nx c d):aC a b ρ O=b c d:=by
 rw[gm,h,lC]
theorem qy{i:Nat}{m:L2.M D}{ρ:aA}{O a:aq}{d:D}(h:m ρ O=.ok d a):aK i m ρ O=.nx (ρ.set i (some d)) a:=by
 rw[sG,h,sH]
abbrev Nd:=Int×(Nat×Nat)
def dN(n:Nd):D:=.tup [.int n.1,pr n.2]
def key(n:Nd):NK:=(n.1,[.inr (S [n.2.1]),.inr (S [n.2.2])])
theorem wH(n:Nd):rR (dN n)=some (key n):=rfl
theorem m5{a b:Nat}(h:S [a]=S [b]):a=b:=by
 have:=FP [a] [b]
 rw[h,beq_self_eq_true] at this;have q:=zV this.symm
 injection q
theorem tV{a b:Nd}:key a=key b↔a=b:=by
 constructor
 ·intro h;have h1:=congrArg Prod.fst h;have h2:=congrArg Prod.snd h;have h2':[Sum.inr (S [a.2.1]),Sum.inr (S [a.2.2])]=([Sum.inr (S [b.2.1]),Sum.inr (S [b.2.2])]:List Key):=h2
  injection h2' with d c
  injection d with d
  injection c with c _
  injection c with c
  exact Prod.ext h1 (Prod.ext (m5 d) (m5 c))
 ·intro h;rw[h]
structure M3 where
 cost:Int
 name:List Nat
 other:Nd
def d3(m:M3):D:=.tup [.int m.cost,.str m.name,dN m.other]
def pD:Option Int->D
 |none=>.non
 |some i=>.int i
abbrev Tb:=List (Nd×Option Int)
def tab(ps:Tb):List (NK×D):=ps.map λx=>(key x.1,pD x.2)
def lk(ps:Tb)(n:Nd):Option (Option Int):=(ps.find? λx=>decide (x.1=n)).map (·.2)
def put(ps:Tb)(n:Nd)(v:Option Int):Tb:=if(ps.any λx=>decide (x.1=n))=true then ps.map (λx=>if x.1=n then(x.1,v) else x) else ps++[(n,v)]
theorem N8(n:Nd):∀ps:Tb,valN (tab ps) (key n)=(lk ps n).map pD
 | []=>rfl
 |x::ps=>by
  have a:=N8 n ps;unfold valN lk tab at *;rw[zh,List.find?_cons,List.find?_cons]
  by_cases h:x.1=n
  ·simp[h]
  ·have h':¬key x.1=key n:=λz=>h (tV.mp z)
   simp only[h,h',decide_false];exact a
theorem Oa(n:Nd):∀ps:Tb,((tab ps).any λp=>decide (p.1=key n))=ps.any λx=>decide (x.1=n)
 | []=>rfl
 |x::ps=>by
  have a:=Oa n ps;unfold tab at *;rw[zh,List.any_cons,List.any_cons,a];congr 1;exact decide_eq_decide.mpr tV
theorem Qvm(ps:Tb)(n:Nd)(v:Option Int):putN (tab ps) (key n) (pD v)=tab (put ps n v):=by
 unfold putN put;rw[Oa]
 split
 ·unfold tab;rw[zO,zO]
  refine jm λx _=>?_
  by_cases h:x.1=n
  ·simp[h]
  ·have h':¬key x.1=key n:=λz=>h (tV.mp z)
   simp[h,h']
 ·unfold tab;rw[zW];rfl
theorem Ga{n:Nd}:∀{ps:Tb},(ps.any λx=>decide (x.1=n))=false->lk ps n=none
 | [],_=>rfl
 |x::ps,h=>by
  rw[List.any_cons,Bool.or_eq_false_iff] at h
  have:=Ga h.2
  unfold lk at *;rw[List.find?_cons,h.1];exact this
theorem qz(x:Nd×Option Int)(ps:Tb)(n:Nd):lk (x::ps) n=if x.1=n then some x.2 else lk ps n:=by
 unfold lk;rw[List.find?_cons]
 by_cases h:x.1=n
 ·simp[h]
 ·simp[h]
theorem Oc(n:Nd)(y:Nd×Option Int):∀ps:Tb,lk (ps++[y]) n=if(lk ps n).isSome=true then lk ps n else if y.1=n then some y.2 else none
 | []=>by
  rw[zI,qz];rfl
 |x::ps=>by
  rw[List.cons_append,qz,qz,Oc n y ps]
  by_cases h:x.1=n
  ·simp[h]
  ·simp[h]
theorem Od(n m:Nd)(v:Option Int):∀ps:Tb,lk (ps.map λx=>if x.1=n then(x.1,v) else x) m=if m=n then(lk ps m).map λ_=>v else lk ps m
 | []=>by simp[lk]
 |x::ps=>by
  rw[zh,qz,qz,Od n m v ps]
  by_cases h:x.1=n
  ·by_cases b:m=n
   ·subst b;simp[h]
   ·have:¬n=m:=λz=>b z.symm
    simp[h,b,this]
  ·by_cases a:x.1=m
   ·have:¬m=n:=λz=>h (a.trans z)
    simp[h,a,this]
   ·simp[h,a]
theorem Oe{n:Nd}:∀{ps:Tb},(ps.any λx=>decide (x.1=n))=true->(lk ps n).isSome=true
 |x::ps,h=>by
  rw[qz]
  by_cases a:x.1=n
  ·simp[a]
  ·rw[if_neg a];rw[List.any_cons,zd a,Bool.false_or] at h;exact Oe h
theorem Og(ps:Tb)(n m:Nd)(v:Option Int):lk (put ps n v) m=if m=n then some v else lk ps m:=by
 unfold put
 split
 ·rename_i h;rw[Od]
  split
  ·rename_i a;subst a
   have:=Oe h
   cases e:lk ps m with
   |none=>rw[e] at this;cases this
   |some w=>rfl
  ·rfl
 ·rename_i h;have h0:=Ga (Bool.eq_false_iff.mpr h);rw[Oc]
  by_cases a:m=n
  ·subst a;simp[h0]
  ·have:¬n=m:=λz=>a z.symm
   simp[a,this]
   cases lk ps m<;>simp
theorem Qu0(ps:Tb)(n:Nd)(v:Option Int):(put ps n v).length<=ps.length+1:=by
 unfold put
 split
 ·rw[ze];omega
 ·rw[zu];exact zc _
theorem QuZ{ps:Tb}{n:Nd}{v:Option Int}(h:(lk ps n).isSome=true):(put ps n v).length=ps.length:=by
 unfold put
 split
 ·rw[ze]
 ·rename_i a;rw[Ga (Bool.eq_false_iff.mpr a)] at h;cases h
theorem Gb{b a:L2.M D}{ρ:aA}{O:aq}{p:Nat}{ps:Tb}{n:Nd}{v:Option Int}(h1:b ρ O=.ok (.ob p) O)(h2:O[p]?=some (.dn (tab ps)))(h3:a ρ O=.ok (dN n) O)(h4:lk ps n=some v):dJ b a ρ O=.ok (pD v) O:=by
 unfold dJ;rw[h1];dsimp only[aV];rw[h3];dsimp only[aV];unfold nsG;rw[wH,h2];dsimp only;rw[N8,h4];rfl
theorem QwR{b a:L2.M D}{ρ:aA}{O:aq}{q:Nat}{kvs:List (NK×D)}{n:Nd}{d:D}(h1:b ρ O=.ok (.ob q) O)(h2:O[q]?=some (.nf kvs))(h3:a ρ O=.ok (dN n) O)(h4:valN kvs (key n)=some d):dJ b a ρ O=.ok d O:=by
 unfold dJ;rw[h1];dsimp only[aV];rw[h3];dsimp only[aV];unfold nsG;rw[wH,h2];dsimp only;rw[h4]
theorem Oh{c a b:L2.M D}{ρ:aA}{O:aq}{p:Nat}{ps:Tb}{n:Nd}{v:Option Int}(h0:b ρ O=.ok (pD v) O)(h1:c ρ O=.ok (.ob p) O)(h2:O[p]?=some (.dn (tab ps)))(h3:a ρ O=.ok (dN n) O)(d:ps.length<1000000):gP c a b ρ O=.nx ρ (O.set p (.dn (tab (put ps n v)))):=by
 unfold gP;rw[h0];dsimp only;rw[h1];dsimp only;rw[h3];dsimp only;rw[wH,h2];dsimp only;rw[if_pos (by unfold tab;rw[ze];exact d),Qvm]
def co(ps:Tb)(m:M3):Option Int:=match lk ps m.other with
 |some (some b)=>some (m.cost+b)
 | _=>none
def lc(ps:Tb)(ms:List M3):Option Int:=mdI none (ms.filterMap (co ps))
theorem Oi{O:aq}{p:Nat}{ps:Tb}{m:M3}(d:O[p]?=some (.dn (tab ps)))(f:(lk ps m.other).isSome=true):lG [d3 m,.ob p] O=.ok (pD (co ps m)) O:=by
 obtain⟨v,a⟩:=Option.isSome_iff_exists.mp f;have c:dJ (mG (aa 1)) (ak gIx (aa 0) (mC (.int 2))) [some (d3 m),some (.ob p),none] O=.ok (pD v) O:=Gb rfl d (bD rfl rfl rfl) a;show bA (vh [some (d3 m),some (.ob p),none] O)=_;unfold vh;rw[sq (cG c),eG];unfold co;rw[a]
 cases v with
 |none=>rfl
 |some b=>rfl
theorem ints_map:∀a:List Int,lq (a.map D.int)=some a
 | []=>rfl
 |i::a=>by
  show(lq (a.map D.int)).map (i :: ·)=_;rw[ints_map a];rfl
theorem Oj(ps:Tb):∀ms:List M3,(ms.map λm=>pD (co ps m)).filter (λd=>!isNon d)=(ms.filterMap (co ps)).map D.int
 | []=>rfl
 |m::ms=>by
  rw[zh,List.filter_cons,List.filterMap_cons,Oj ps ms]
  cases co ps m<;>rfl
theorem Ol{O:aq}{p:Nat}{ps:Tb}{ms:List M3}(g:O[p]?=some (.dn (tab ps)))(h:∀m∈ms,(lk ps m.other).isSome=true)(k:ms.length<=1000):nW [.lst (ms.map d3),.ob p] O=.ok (pD (lc ps ms)) O:=by
 have j:dh (mgN 0) iz (aJ lG (aj (aa 0) (aj (aa 1) au))) (ms.map d3) [none,some (.ob p)] O []=.ok (ms.map λm=>pD (co ps m)) O:=by
  rw[sI (λρ=>∃a,ρ=[a,some (.ob p)]) d3 (λm=>pD (co ps m)) ms _ _ _ ⟨none,rfl⟩ (by
   rintro m hm' ρ ⟨a,rfl⟩
   exact⟨_,rfl,⟨_,rfl⟩,rfl,(cF (maS rfl (ma1 rfl))).trans (Oi g (h m hm'))⟩)]
  rw[zI]
 have f:eZ (cR (aa 0)) 1 [1] (mgN 0) iz (aJ lG (aj (aa 0) (aj (aa 1) au))) [some (.lst (ms.map d3)),some (.ob p),none] O=.ok (.lst (ms.map λm=>pD (co ps m))) O:=qp (lK rfl) (by rw[ze];omega) rfl j
 have i:dh (mgN 0) (aB (ir (aa 0))) (aa 0) (ms.map λm=>pD (co ps m)) [none] O []=.ok ((ms.filterMap (co ps)).map D.int) O:=by
  rw[Ks (λρ=>∃a,ρ=[a]) (λd=>!isNon d) _ _ _ _ ⟨none,rfl⟩ (by
   rintro d hd ρ ⟨a,rfl⟩
   exact⟨_,rfl,⟨_,rfl⟩,rfl,rfl⟩)]
  rw[zI,Oj]
 have c:eZ (cR (aa 2)) 1 [] (mgN 0) (aB (ir (aa 0))) (aa 0) [some (.lst (ms.map d3)),some (.ob p),some (.lst (ms.map λm=>pD (co ps m)))] O=.ok (.lst ((ms.filterMap (co ps)).map D.int)) O:=qp (lK rfl) (by rw[ze];omega) rfl i
 have b:bx uH (aj (eZ (cR (aa 2)) 1 [] (mgN 0) (aB (ir (aa 0))) (aa 0)) au) [some (.lst (ms.map d3)),some (.ob p),some (.lst (ms.map λm=>pD (co ps m)))] O=.ok (pD (lc ps ms)) O:=ou (ma1 c) (by
  show(lq ((ms.filterMap (co ps)).map D.int)).map _=_;rw[ints_map];show some (match mdI none (ms.filterMap (co ps)) with | some m=>D.int m | none=>D.non)=some (pD (mdI none (ms.filterMap (co ps))))
  cases mdI none (ms.filterMap (co ps))<;>rfl)
 show bA (vm [some (.lst (ms.map d3)),some (.ob p),none] O)=_;unfold vm;rw[sq (cG f),eG];exact congrArg (λr=>bA (mH r)) b
theorem Om{ps a:Tb}:∀{ms:List M3},(∀m∈ms,lk a m.other=lk ps m.other)->ms.filterMap (co a)=ms.filterMap (co ps)
 | [],_=>rfl
 |m::ms,h=>by
  have e:co a m=co ps m:=by
   unfold co;rw[h m zg]
  rw[List.filterMap_cons,List.filterMap_cons,e,Om λx b=>h x (zn _ b)]
theorem wI{ps a:Tb}{ms:List M3}(h:∀m∈ms,lk a m.other=lk ps m.other):lc a ms=lc ps ms:=by
 unfold lc;rw[Om h]
structure Trl(t:Nat)(fs:List (Str×D))(N:Nat)(nodes:Nat->List Nd)(mv:Nd->List M3)(fin:Nd->Bool):Prop where
 na:∀(O:aq) (a:Nat),O[t]?=some (.ins "Leaps" fs)->a<=N->mO [.ob t,.int a] O=.ok (.lst ((nodes a).map dN)) O
 mf:∀(O:aq) (a:Nat) (n:Nd),O[t]?=some (.ins "Leaps" fs)->a<=N->n∈nodes a->jV [.ob t,dN n] O=.ok (.lst ((mv n).map d3)) O
 ie:∀(O:aq) (a:Nat) (n:Nd),O[t]?=some (.ins "Leaps" fs)->a<=N->n∈nodes a->jW [.ob t,dN n] O=.ok (.bl (fin n)) O
 la:∀O:aq,O[t]?=some (.ins "Leaps" fs)->fV [.ob t] O=.ok (.int N) O
 fi:∀O:aq,O[t]?=some (.ins "Leaps" fs)->vK [.ob t] O=.ok (dN (0,(46,46))) O
 f0:((0,(46,46)):Nd)∈nodes 0
 nd:∀a,(nodes a).Nodup
 ln:∀a,(nodes a).length<=10
 fw:∀(a:Nat) (n:Nd),a<=N->n∈nodes a->∀m∈mv n,∃b,a<b/\b<=N/\m.other∈nodes b
 sp:∀(a b:Nat) (n:Nd),n∈nodes a->n∈nodes b->a=b
 ml:∀n,(mv n).length<=1000
 fe:∀n,fin n=true->mv n=[]
 u1:(fs.lookup ("nodes_at":Str)).isNone=true
 u2:(fs.lookup ("moves_from":Str)).isNone=true
 u3:(fs.lookup ("is_end":Str)).isNone=true
 u4:(fs.lookup ("last_at":Str)).isNone=true
 u5:(fs.lookup ("first_node":Str)).isNone=true
 hN:N<=1000
def cH(a:Nd->List M3)(ns:List Nd):List (NK×D):=ns.map λn=>(key n,D.lst ((a n).map d3))
theorem Oo(a:Nd->List M3)(n:Nd):∀ns:List Nd,((cH a ns).any λp=>decide (p.1=key n))=decide (n∈ns)
 | []=>rfl
 |x::ns=>by
  have b:=Oo a n ns;unfold cH at *;rw[zh,List.any_cons,b]
  by_cases h:x=n
  ·subst h;simp
  ·have h1:¬key x=key n:=λz=>h (tV.mp z)
   have h2:¬n=x:=λz=>h z.symm
   simp[h1,h2]
theorem Qs3{a:Nd->List M3}{ns:List Nd}{n:Nd}(h:n∉ns):putN (cH a ns) (key n) (.lst ((a n).map d3))=cH a (ns++[n]):=by
 unfold putN;rw[Oo,zd h,if_neg zf];unfold cH;rw[zW];rfl
theorem Oq(a:Nd->List M3)(n:Nd):∀ns:List Nd,n∈ns->valN (cH a ns) (key n)=some (.lst ((a n).map d3))
 |x::ns,h=>by
  unfold valN cH;rw[zh,List.find?_cons]
  by_cases b:x=n
  ·subst b;simp
  ·have h1:¬key x=key n:=λz=>b (tV.mp z)
   simp only[h1,decide_false]
   rcases zk.mp h with rfl | h
   ·exact absurd rfl b
   ·exact Oq a n ns h
theorem QsC(a:Nd->List M3)(ns:List Nd):(cH a ns).map J4=ns.map dN:=by
 unfold cH;rw[zO];rfl
def B_1:MS:=(aC (gP (aa 3) (aa 4) (bQ "Leaps" "moves_from" jV (mG (aa 0)) (aj (aa 4) au)))
  (gP (mG (aa 2)) (aa 4) (mIf (bW (bQ "Leaps" "is_end" jW (mG (aa 0)) (aj (aa 4) au))) (mC (.int 0)) (mC .non))))
def ini(a:Nd->Bool)(n:Nd):Option Int:=if a n=true then some 0 else none
theorem tW{O:aq}{i j:Nat}{x y:Ob}(h1:O[i]?=some x)(h2:O[j]?=some y)(h:x≠y):i≠j:=λz=>by
 rw[z,h2] at h1;exact h (zD h1).symm
theorem tX{O:aq}{i:Nat}{x y:Ob}(e:O[i]?=some x):(O.set i y)[i]?=some y:=by
 obtain⟨h,_⟩:=zq.mp e;simp[h]
section
variable {t:Nat}{fs:List (Str×D)}{N:Nat}{nodes:Nat->List Nd}{mv:Nd->List M3}{fin:Nd->Bool}{p q:Nat}
theorem QtI(T:Trl t fs N nodes mv fin){a:Nat}(r:a<=N){n:Nd}(m:n∈nodes a){pre:List Nd}(i:n∉pre){O:aq}{d:Tb}(f:O[t]?=some (.ins "Leaps" fs))(l:O[p]?=some (.dn (tab d)))(k:O[q]?=some (.dn (cH mv pre)))(g:p≠q)(y:d.length<1000000)(j:pre.length<1000000)(c b:Option D):
  B_1 [some (.ob t),some (.int a),some (.ob p),some (.ob q),some (dN n),c,b] O=.nx [some (.ob t),some (.int a),some (.ob p),some (.ob q),some (dN n),c,b] ((O.set q (.dn (cH mv (pre++[n])))).set p (.dn (tab (put d n (ini fin n))))):=by
 have u:t≠q:=tW f k (λz=>nomatch z);have F:t≠p:=tW f l (λz=>nomatch z);have E:bQ "Leaps" "moves_from" jV (mG (aa 0)) (aj (aa 4) au) [some (.ob t),some (.int a),some (.ob p),some (.ob q),some (dN n),c,b] O=.ok (.lst ((mv n).map d3)) O:=(jy rfl f T.u2 (ma1 rfl)).trans (T.mf O a n f r m)
 have x:gP (aa 3) (aa 4) (bQ "Leaps" "moves_from" jV (mG (aa 0)) (aj (aa 4) au)) [some (.ob t),some (.int a),some (.ob p),some (.ob q),some (dN n),c,b] O=.nx [some (.ob t),some (.int a),some (.ob p),some (.ob q),some (dN n),c,b] (O.set q (.dn (cH mv (pre++[n])))):=by
  unfold gP;rw[E];dsimp only;rw[show(aa 3) [some (.ob t),some (.int a),some (.ob p),some (.ob q),some (dN n),c,b] O=.ok (.ob q) O from rfl];dsimp only;rw[show(aa 4) [some (.ob t),some (.int a),some (.ob p),some (.ob q),some (dN n),c,b] O=.ok (dN n) O from rfl];dsimp only;rw[wH,k];dsimp only;rw[if_pos (by unfold cH;rw[ze];exact j),Qs3 i]
 have ht':(O.set q (.dn (cH mv (pre++[n]))))[t]?=some (.ins "Leaps" fs):=by rw[zv (Ne.symm u)];exact f
 have h:(O.set q (.dn (cH mv (pre++[n]))))[p]?=some (.dn (tab d)):=by rw[zv (Ne.symm g)];exact l
 have C:bQ "Leaps" "is_end" jW (mG (aa 0)) (aj (aa 4) au) [some (.ob t),some (.int a),some (.ob p),some (.ob q),some (dN n),c,b] (O.set q (.dn (cH mv (pre++[n]))))=.ok (.bl (fin n)) (O.set q (.dn (cH mv (pre++[n])))):=(jy rfl ht' T.u3 (ma1 rfl)).trans (T.ie _ a n ht' r m)
 have B:mIf (bW (bQ "Leaps" "is_end" jW (mG (aa 0)) (aj (aa 4) au))) (mC (.int 0)) (mC .non) [some (.ob t),some (.int a),some (.ob p),some (.ob q),some (dN n),c,b] (O.set q (.dn (cH mv (pre++[n]))))=.ok (pD (ini fin n)) (O.set q (.dn (cH mv (pre++[n])))):=by
  rw[nG,rZ,C,aV,yM,yP,yO,aV];unfold ini
  cases fin n<;>rfl
 unfold B_1;rw[sq x];exact Oh B rfl h rfl y
theorem Ot(T:Trl t fs N nodes mv fin){a:Nat}(C:a<=N)(f:p≠q)(i h:Option D):∀(rest pre:List Nd) (O:aq) (b:Tb) (k:Option D),(∀n∈rest,n∈nodes a)->(pre++rest).Nodup->O[t]?=some (.ins "Leaps" fs)->O[p]?=some (.dn (tab b))->O[q]?=some (.dn (cH mv pre))->b.length+rest.length<1000000->pre.length+rest.length<1000000 ->
  ∃d c g,bO (mgN 4) B_1 (rest.map dN) [some (.ob t),some (.int a),some (.ob p),some (.ob q),k,i,h] O=.nx [some (.ob t),some (.int a),some (.ob p),some (.ob q),g,i,h] d/\d[p]?=some (.dn (tab c))/\d[q]?=some (.dn (cH mv (pre++rest)))/\(∀j,j≠p->j≠q->d[j]?=O[j]?)/\(∀n,lk c n=if n∈rest then some (ini fin n) else lk b n)/\c.length<=b.length+rest.length
 | [],pre,O,b,k,_,_,_,hp,hq,_,_=>⟨O,b,k,rfl,hp,by rw[zU];exact hq,λ_ _ _=>rfl,λn=>by simp,zc _⟩
 |n::rest,pre,O,b,k,hr,hd,ht,hp,hq,hl,hl2=>by
  rw[zo] at hl hl2;have G:=hr n zg
  have x:n∉pre:=λz=>(jj.mp hd).2.2 n z n zg rfl
  have u:n∉rest:=λz=>(List.nodup_cons.mp (jj.mp hd).2.1).1 z
  have H:=QtI T C G x ht hp hq f (by omega) (by omega) i h;have E:t≠q:=tW ht hq (λz=>nomatch z);have F:t≠p:=tW ht hp (λz=>nomatch z);have I:=Qu0 b n (ini fin n);obtain⟨d,c,g,e,h1,h2,h3,h4,J⟩:=Ot T C f i h rest (pre++[n]) ((O.set q (.dn (cH mv (pre++[n])))).set p (.dn (tab (put b n (ini fin n))))) (put b n (ini fin n)) (some (dN n)) (λm l=>hr m (zn _ l)) (by rw[zB];exact hd)
   (by rw[zv (Ne.symm F),zv (Ne.symm E)];exact ht) (tX (by rw[zv (Ne.symm f)];exact hp)) (by rw[zv f];exact tX hq) (by omega) (by rw[zu,jd];omega)
  refine⟨d,c,g,?_,h1,by rw[zB] at h2;exact h2,λj B y=>?_,λm=>?_,by rw[zo];omega⟩
  ·rw[zh];unfold bO;rw[mg_n];dsimp only
   show(match B_1 [some (.ob t),some (.int a),some (.ob p),some (.ob q),some (dN n),i,h] O with
    | .nx ρ' d=>bO _ _ (rest.map dN) ρ' d | .ct ρ' d=>bO _ _ (rest.map dN) ρ' d | .bk ρ' d=>Fl.nx ρ' d | r=>r)=_
   rw[H];exact e
  ·rw[h3 j B y,zv (Ne.symm B),zv (Ne.symm y)]
  ·rw[h4 m,Og]
   by_cases l:m=n
   ·subst l;simp[u]
   ·simp[l]
end
def B_r:MS:=(aC (aK 6 (aJ nW (aj (dJ (aa 3) (aa 4)) (aj (aa 2) au))))
  (aX (cD (aB (ir (aa 6))) (cB (aB (jE (dJ (mG (aa 2)) (aa 4)))) (aB (ak gLt (aa 6) (dJ (mG (aa 2)) (aa 4)))))) (aC (gP (mG (aa 2)) (aa 4) (aa 6))
  (aK 5 (mC (.bl true)))) bc))
def better(v L:Option Int):Bool:=match L with
 |none=>false
 |some c=>match v with
  |none=>true
  |some w=>decide (c<w)
section
variable {t:Nat}{fs:List (Str×D)}{N:Nat}{nodes:Nat->List Nd}{mv:Nd->List M3}{fin:Nd->Bool}{p q:Nat}
theorem Qxz{ns:List Nd}{n:Nd}(E:n∈ns){O:aq}{a:Tb}{v:Option Int}(k:O[p]?=some (.dn (tab a)))(C:O[q]?=some (.nf (cH mv ns)))(hv:lk a n=some v)(F:∀m∈mv n,(lk a m.other).isSome=true)(l:(mv n).length<=1000)(G:a.length<1000000)(b:Bool)(d a1 j:Option D):
  B_r [d,a1,some (.ob p),some (.ob q),some (dN n),some (.bl b),j] O=.nx [d,a1,some (.ob p),some (.ob q),some (dN n),some (.bl (b || better v (lc a (mv n)))),some (pD (lc a (mv n)))] (if better v (lc a (mv n))=true then O.set p (.dn (tab (put a n (lc a (mv n))))) else O):=by
 have B:dJ (aa 3) (aa 4) [d,a1,some (.ob p),some (.ob q),some (dN n),some (.bl b),j] O=.ok (.lst ((mv n).map d3)) O:=QwR rfl C rfl (Oq mv n ns E);have y:aJ nW (aj (dJ (aa 3) (aa 4)) (aj (aa 2) au)) [d,a1,some (.ob p),some (.ob q),some (dN n),some (.bl b),j] O=.ok (pD (lc a (mv n))) O:=(cF (maS B (ma1 rfl))).trans (Ol k F l)
 have u:∀g:Option D,dJ (mG (aa 2)) (aa 4) [d,a1,some (.ob p),some (.ob q),some (dN n),some (.bl b),g] O=.ok (pD v) O:=λg=>Gb rfl k rfl hv
 unfold B_r;rw[sq (cG y)];show aX _ _ _ [d,a1,some (.ob p),some (.ob q),some (dN n),some (.bl b),some (pD (lc a (mv n)))] O=_
 cases hL:lc a (mv n) with
 |none =>
  refine(gn ?_).trans ?_
  ·rw[fQ];rfl
  ·show Fl.nx _ O=_;simp[better]
 |some c =>
  have f:(aC (gP (mG (aa 2)) (aa 4) (aa 6)) (aK 5 (mC (.bl true)))) [d,a1,some (.ob p),some (.ob q),some (dN n),some (.bl b),some (pD (some c))] O=.nx [d,a1,some (.ob p),some (.ob q),some (dN n),some (.bl true),some (pD (some c))] (O.set p (.dn (tab (put a n (some c))))):=by
   rw[sq (Oh (v:=some c) rfl rfl k rfl G)];rfl
  have r:aB (ir (aa 6)) [d,a1,some (.ob p),some (.ob q),some (dN n),some (.bl b),some (pD (some c))] O=.ok true O:=rfl
  have tB:aB (jE (dJ (mG (aa 2)) (aa 4))) [d,a1,some (.ob p),some (.ob q),some (dN n),some (.bl b),some (pD (some c))] O=.ok (isNon (pD v)) O:=by
   rw[uT,YS,u,aV,aV,uR]
  cases v with
  |none =>
   refine(jx ?_).trans ?_
   ·rw[fQ,r,aV,if_pos rfl,iU,tB,aV];rfl
   ·rw[f];simp[better]
  |some w =>
   have tC:aB (ak gLt (aa 6) (dJ (mG (aa 2)) (aa 4))) [d,a1,some (.ob p),some (.ob q),some (dN n),some (.bl b),some (pD (some c))] O=.ok (decide (c<w)) O:=fX (bD (x:=.int c) rfl (u _) rfl)
   have h:cD (aB (ir (aa 6))) (cB (aB (jE (dJ (mG (aa 2)) (aa 4)))) (aB (ak gLt (aa 6) (dJ (mG (aa 2)) (aa 4))))) [d,a1,some (.ob p),some (.ob q),some (dN n),some (.bl b),some (pD (some c))] O=.ok (decide (c<w)) O:=by
    rw[fQ,r,aV,if_pos rfl,iU,tB,aV];exact tC
   by_cases i:c<w
   ·rw[zl i] at h;rw[jx h,f];simp[better,i]
   ·rw[zd i] at h;rw[gn h];show Fl.nx _ O=_;simp[better,i]
def fnl(fin:Nd->Bool)(L:Nd->Option Int)(n:Nd):Option Int:=if fin n=true then some 0 else L n
theorem Qqo{fin:Nd->Bool}{L:Nd->Option Int}{n:Nd}{v:Option Int}(a:fin n=true->L n=none)(hv:v=ini fin n\/v=fnl fin L n):(if better v (L n)=true then L n else v)=fnl fin L n:=by
 unfold fnl ini at *
 cases h:fin n with
 |true =>
  have:=a h
  rw[this];rw[h] at hv
  rcases hv with rfl | rfl<;>rfl
 |false =>
  rw[h] at hv
  rcases hv with rfl | rfl
  ·cases L n<;>rfl
  ·simp only[Bool.false_eq_true,if_false]
   split<;>rfl
theorem Qo9{fin:Nd->Bool}{L:Nd->Option Int}{n:Nd}(a:fin n=true->L n=none):better (fnl fin L n) (L n)=false:=by
 unfold fnl
 cases h:fin n with
 |true =>
  rw[a h];rfl
 |false =>
  simp only[Bool.false_eq_true,if_false]
  cases L n with
  |none=>rfl
  |some c=>simp[better]
theorem Ou(T:Trl t fs N nodes mv fin){a:Nat}(R:a<=N){base:Tb}(hb:∀n∈nodes a,∀m∈mv n,(lk base m.other).isSome=true)(st:Nd->Option Int)(G:∀n∈nodes a,st n=ini fin n\/st n=fnl fin (λn=>lc base (mv n)) n)(y a1:Option D):
  ∀(rest:List Nd) (O:aq) (c:Tb) (b:Bool) (C x:Option D),(∀n∈rest,n∈nodes a)->rest.Nodup->O[p]?=some (.dn (tab c))->O[q]?=some (.nf (cH mv (nodes a)))->p≠q->(∀m,m∉nodes a->lk c m=lk base m)->(∀n∈rest,lk c n=some (st n))->c.length<1000000 ->
  ∃i d l k,bO (mgN 4) B_r (rest.map dN) [y,a1,some (.ob p),some (.ob q),C,some (.bl b),x] O=.nx [y,a1,some (.ob p),some (.ob q),l,some (.bl (b || rest.any λn=>better (st n) (lc base (mv n)))),k] i/\i[p]?=some (.dn (tab d))/\(∀j,j≠p->i[j]?=O[j]?)/\(∀m,lk d m=if m∈rest then some (fnl fin (λn=>lc base (mv n)) m) else lk c m)/\d.length<=c.length
 | [],O,c,b,C,x,_,_,hp,_,_,_,_,_=>⟨O,c,C,x,by simp[bO],hp,λ_ _=>rfl,λm=>by simp,zc _⟩
 |n::rest,O,c,b,C,x,hr,hd,hp,hq,hpq,hc,hs,hl=>by
  have E:=hr n zg;have hd':=List.nodup_cons.mp hd
  have H:∀m∈mv n,m.other∉nodes a:=λm g z=>by
   obtain⟨b,b1,b2,b3⟩:=T.fw a n R E m g
   have:=T.sp a b _ z b3
   omega
  have eL:lc c (mv n)=lc base (mv n):=wI λm g=>hc _ (H m g)
  have g:∀m∈mv n,(lk c m.other).isSome=true:=λm g=>by rw[hc _ (H m g)];exact hb n E m g
  have U:=Qxz E hp hq (hs n zg) g (T.ml n) hl b y a1 x;rw[eL] at U;have J:=Qqo (L:=λn=>lc base (mv n)) (λh=>by show lc base (mv n)=none;rw[T.fe n h];rfl) (G n E)
  have B:(lk c n).isSome=true:=by rw[hs n zg];rfl
  have go:∀(F:aq) (f:Tb),F[p]?=some (.dn (tab f))->(∀j,j≠p->F[j]?=O[j]?)->(∀m,lk f m=if m=n then some (fnl fin (λn=>lc base (mv n)) n) else lk c m)->f.length<=c.length->(if better (st n) (lc base (mv n))=true then O.set p (.dn (tab (put c n (lc base (mv n))))) else O)=F ->
    ∃i d l k,bO (mgN 4) B_r ((n::rest).map dN) [y,a1,some (.ob p),some (.ob q),C,some (.bl b),x] O=.nx [y,a1,some (.ob p),some (.ob q),l,some (.bl (b || (n::rest).any λn=>better (st n) (lc base (mv n)))),k] i/\i[p]?=some (.dn (tab d))/\(∀j,j≠p->i[j]?=O[j]?)/\(∀m,lk d m=if m∈n::rest then some (fnl fin (λn=>lc base (mv n)) m) else lk c m)/\d.length<=c.length:=λF f X Q P k4 W=>by
   obtain⟨i,d,l,k,e,g1,Z,Y,g4⟩:=Ou T R hb st G y a1 rest F f (b || better (st n) (lc base (mv n))) (some (dN n)) (some (pD (lc base (mv n)))) (λm g=>hr m (zn _ g)) hd'.2 X ((Q q (Ne.symm hpq)).trans hq) hpq (λm g=>by
     rw[P m,if_neg (λz:m=n=>g (by rw[z];exact E))]
     exact hc m g) (λm g=>by
     rw[P m,if_neg (λz:m=n=>hd'.1 (by rw[<-z];exact g))]
     exact hs m (zn _ g)) (by omega)
   refine⟨i,d,l,k,?_,g1,λj I=>(Z j I).trans (Q j I),λm=>?_,by omega⟩
   ·rw[zh];unfold bO;rw[mg_n];dsimp only
    show(match B_r [y,a1,some (.ob p),some (.ob q),some (dN n),some (.bl b),x] O with
     | .nx ρ' i=>bO _ _ (rest.map dN) ρ' i | .ct ρ' i=>bO _ _ (rest.map dN) ρ' i | .bk ρ' i=>Fl.nx ρ' i | r=>r)=_
    rw[U,W];rw[List.any_cons,<-Bool.or_assoc];exact e
   ·rw[Y m,P m]
    by_cases u:m=n
    ·subst u;simp[hd'.1]
    ·simp[u]
  cases hbt:better (st n) (lc base (mv n)) with
  |true =>
   rw[hbt] at J;refine go (O.set p (.dn (tab (put c n (lc base (mv n)))))) (put c n (lc base (mv n))) (tX hp) (λj I=>by rw[zv (Ne.symm I)]) (λm=>?_) (Nat.le_of_eq (QuZ B)) (by rw[hbt];rfl);rw[Og,<-J];rfl
  |false =>
   rw[hbt] at J;refine go O c hp (λ_ _=>rfl) (λm=>?_) (zc _) (by rw[hbt];rfl)
   split
   ·rename_i u;rw[u,<-J];exact hs n zg
   ·rfl
end
def B_n:MS:=(aC (aK 5 (mC (.bl false)))
  (pB 3 (cY (pA (aa 3)) (mgN 4) B_r)))
section
variable {t:Nat}{fs:List (Str×D)}{N:Nat}{nodes:Nat->List Nd}{mv:Nd->List M3}{fin:Nd->Bool}{p q:Nat}
theorem Ov(T:Trl t fs N nodes mv fin){a:Nat}(W:a<=N){base:Tb}(hb:∀n∈nodes a,∀m∈mv n,(lk base m.other).isSome=true)(st:Nd->Option Int)(C:∀n∈nodes a,st n=ini fin n\/st n=fnl fin (λn=>lc base (mv n)) n)(k a1 u L r:Option D){O:aq}{c:Tb}
  (Q:O[p]?=some (.dn (tab c))) (B:O[q]?=some (.dn (cH mv (nodes a)))) (i:p≠q) (H:∀m,m∉nodes a->lk c m=lk base m) (hs:∀n∈nodes a,lk c n=some (st n)) (U:c.length<1000000):
  ∃l b g f,B_n [k,a1,some (.ob p),some (.ob q),u,L,r] O=.nx [k,a1,some (.ob p),some (.ob q),g,some (.bl ((nodes a).any λn=>better (st n) (lc base (mv n)))),f] l/\l[p]?=some (.dn (tab b))/\l[q]?=some (.dn (cH mv (nodes a)))/\(∀j,j≠p->j≠q->l[j]?=O[j]?)/\(∀m,m∉nodes a->lk b m=lk base m)/\(∀n∈nodes a,lk b n=some (fnl fin (λn=>lc base (mv n)) n))/\b.length<=c.length:=by
 have y:(O.set q (.nf (cH mv (nodes a))))[q]?=some (.nf (cH mv (nodes a))):=tX B
 have E:(O.set q (.nf (cH mv (nodes a))))[p]?=some (.dn (tab c)):=by rw[zv (Ne.symm i)];exact Q
 obtain⟨l,b,g,f,e,Y,J,I,X⟩:=Ou T W hb st C k a1 (nodes a) (O.set q (.nf (cH mv (nodes a)))) c false u r (λn h=>h) (T.nd a) E y i H hs U;rw[Bool.false_or] at e;have x:l[q]?=some (.nf (cH mv (nodes a))):=(J q (Ne.symm i)).trans y;refine⟨l.set q (.dn (cH mv (nodes a))),b,g,f,?_,?_,tX x,λj P F=>?_,λm G=>?_,λn R=>?_,X⟩
 ·have Z:pA (aa 3) [k,a1,some (.ob p),some (.ob q),u,some (.bl false),r] O=.ok ((nodes a).map dN) (O.set q (.nf (cH mv (nodes a)))):=by
   unfold pA;rw[show(aa 3) [k,a1,some (.ob p),some (.ob q),u,some (.bl false),r] O=.ok (.ob q) O from rfl];dsimp only[aV];rw[B];dsimp only;rw[QsC]
  have ef:cY (pA (aa 3)) (mgN 4) B_r [k,a1,some (.ob p),some (.ob q),u,some (.bl false),r] O=.nx [k,a1,some (.ob p),some (.ob q),g,some (.bl ((nodes a).any λn=>better (st n) (lc base (mv n)))),f] l:=by
   rw[jR,Z,jT,e]
  unfold B_n;rw[sq (cG (m_c (d:=.bl false)))];show pB 3 _ [k,a1,some (.ob p),some (.ob q),u,some (.bl false),r] O=_;unfold pB;show(match O[q]? with | some (.dn _)=>_ | _=>Fl.no)=_;rw[B];dsimp only;rw[ef];dsimp only;rw[x]
 ·rw[zv (Ne.symm i)];exact Y
 ·rw[zv (Ne.symm F),J j P,zv (Ne.symm F)]
 ·rw[I m,if_neg G];exact H m G
 ·rw[I n,if_pos R]
theorem wJ{t:L2.M Bool}{b:MS}{k:Nat}{ρ a:aA}{O c:aq}(h:t ρ O=.ok true O)(hb:b ρ O=.nx a c):eU t b (k+1) ρ O=eU t b k a c:=by
 show(match t ρ O with | .ok true O1=>(match b ρ O1 with | .nx a c=>eU t b k a c | .ct a c=>eU t b k a c | .bk a c=>Fl.nx a c | r=>r) | .ok false O1=>.nx ρ O1 | .ex x O'=>.ex x O' | .no=>.no)=_;rw[h];dsimp only;rw[hb]
theorem Ge{t:L2.M Bool}{b:MS}{k:Nat}{ρ:aA}{O:aq}(h:t ρ O=.ok false O):eU t b (k+1) ρ O=.nx ρ O:=by
 show(match t ρ O with | .ok true O1=>(match b ρ O1 with | .nx ρ2 O2=>eU t b k ρ2 O2 | .ct ρ2 O2=>eU t b k ρ2 O2 | .bk ρ2 O2=>Fl.nx ρ2 O2 | r=>r) | .ok false O1=>.nx ρ O1 | .ex x O'=>.ex x O' | .no=>.no)=_;rw[h]
theorem Qvo(T:Trl t fs N nodes mv fin){a:Nat}(u:a<=N){O:aq}{f:Tb}(ht:O[t]?=some (.ins "Leaps" fs))(hp:O[p]?=some (.dn (tab f)))(hb:∀n∈nodes a,∀m∈mv n,(lk f m.other).isSome=true)(hl:f.length<900000):
  ∃g c,sY [.ob t,.int a,.ob p] O=.ok .non g/\g[p]?=some (.dn (tab c))/\(∀(j:Nat) (x:Ob),j≠p->O[j]?=some x->g[j]?=some x)/\(∀m,m∉nodes a->lk c m=lk f m)/\(∀n∈nodes a,lk c n=some (fnl fin (λn=>lc f (mv n)) n))/\c.length<=f.length+10:=by
 have hln:=T.ln a;have E:=(zq.mp hp).1;have Y:=(zq.mp ht).1;have r:p≠O.length:=zp E
 have l:(O++[Ob.dn []])[t]?=some (.ins "Leaps" fs):=by rw[zC Y];exact ht
 have hp1:(O++[Ob.dn []])[p]?=some (.dn (tab f)):=by rw[zC E];exact hp
 have Z:(O++[Ob.dn []])[O.length]?=some (.dn (cH mv [])):=by simp[cH]
 obtain⟨R,cur1,P,e1,f1,f2,f3,f4,f5⟩:=Ot T u r none none (nodes a) [] (O++[Ob.dn []]) f none (λn h=>h) (T.nd a) l hp1 Z (by omega) (by simp;omega);rw[zI] at f2
 have far:∀n∈nodes a,∀m∈mv n,m.other∉nodes a:=λn W m X z=>by
  obtain⟨b,b1,b2,b3⟩:=T.fw a n u W m X
  have:=T.sp a b _ z b3
  omega
 have hf:∀n,fin n=true->lc f (mv n)=none:=λn h=>by rw[T.fe n h];rfl
 obtain⟨O2,J,C,B,Q,g1,g2,g3,g4,g5,g6⟩:=Ov (base:=f) T u hb (ini fin) (λn _=>.inl rfl) (some (.ob t)) (some (.int a)) P (some (.bl true)) none f1 f2 r (λm X=>by rw[f4 m,if_neg X]) (λn W=>by rw[f4 n,if_pos W]) (by omega);obtain⟨O3,I,G,F,e3,k1,k2,k3,k4,k5,k6⟩:=Ov (base:=f) T u hb (fnl fin λn=>lc f (mv n)) (λn _=>.inr rfl) (some (.ob t)) (some (.int a)) C (some (.bl true)) B g1 g2 r g4 g5 (by omega)
 have z3:((nodes a).any λn=>better (fnl fin (λn=>lc f (mv n)) n) (lc f (mv n)))=false:=by
  rw[List.any_eq_false];intro n _;rw[Qo9 (L:=λn=>lc f (mv n)) (hf n)];exact zf
 rw[z3] at e3;have H:rT [some (.ob t),some (.int a),some (.ob p),none,none,none,none] O=.ok (.ob O.length) (O++[Ob.dn []]):=rfl;have s2:(cR (bQ "Leaps" "nodes_at" mO (mG (aa 0)) (aj (aa 1) au))) [some (.ob t),some (.int a),some (.ob p),some (.ob O.length),none,none,none] (O++[Ob.dn []])=.ok ((nodes a).map dN) (O++[Ob.dn []]):=lK ((jy rfl l T.u1 (ma1 rfl)).trans (T.na _ a l u))
 have s3:cY (cR (bQ "Leaps" "nodes_at" mO (mG (aa 0)) (aj (aa 1) au))) (mgN 4) B_1 [some (.ob t),some (.int a),some (.ob p),some (.ob O.length),none,none,none] (O++[Ob.dn []])=.nx [some (.ob t),some (.int a),some (.ob p),some (.ob O.length),P,none,none] R:=by
  rw[jR,s2,jT,e1]
 have y:∀(j:Nat) (x:Ob),j≠p->O[j]?=some x->R[j]?=some x:=λj x k i=>by
  have:=(zq.mp i).1
  rw[f3 j k (by omega),zC this];exact i
 have U:∀(j:Nat) (x:Ob),O[j]?=some x->j≠O.length:=λj x i=>zp (zq.mp i).1
 have fin':∀(g:aq) (c:Tb) (x4 x6:Option D),eU (bW (aa 5)) B_n 10 [some (.ob t),some (.int a),some (.ob p),some (.ob O.length),P,some (.bl true),none] R=.nx [some (.ob t),some (.int a),some (.ob p),some (.ob O.length),x4,some (.bl false),x6] g->g[p]?=some (.dn (tab c))->(∀(j:Nat) (x:Ob),j≠p->O[j]?=some x->g[j]?=some x)->(∀m,m∉nodes a->lk c m=lk f m)->(∀n∈nodes a,lk c n=some (fnl fin (λn=>lc f (mv n)) n))->c.length<=f.length+10 ->
   ∃g c,sY [.ob t,.int a,.ob p] O=.ok .non g/\g[p]?=some (.dn (tab c))/\(∀(j:Nat) (x:Ob),j≠p->O[j]?=some x->g[j]?=some x)/\(∀m,m∉nodes a->lk c m=lk f m)/\(∀n∈nodes a,lk c n=some (fnl fin (λn=>lc f (mv n)) n))/\c.length<=f.length+10:=λg c x4 x6 hw h1 h2 h3 h4 h5=>by
  refine⟨g,c,?_,h1,h2,h3,h4,h5⟩;unfold B_1 at s3;unfold B_n B_r at hw;show bA (vD [some (.ob t),some (.int a),some (.ob p),none,none,none,none] O)=_;unfold vD;rw[sq (qy H)];show bA (aC _ _ [some (.ob t),some (.int a),some (.ob p),some (.ob O.length),none,none,none] (O++[Ob.dn []]))=_;rw[sq s3,sq (cG (m_c (d:=.bl true)))];show bA (iK 10 _ _ [some (.ob t),some (.int a),some (.ob p),some (.ob O.length),P,some (.bl true),none] R)=_;unfold iK;rw[hw];rfl
 cases hb1:(nodes a).any λn=>better (ini fin n) (lc f (mv n)) with
 |true =>
  rw[hb1] at Q;refine fin' O3 I G F ?_ k1 (λj x k i=>by rw[k3 j k (U j x i),g3 j k (U j x i)];exact y j x k i) k4 k5 (by omega);rw[wJ rfl Q,wJ rfl e3,Ge rfl]
 |false =>
  rw[hb1] at Q;refine fin' O2 J C B ?_ g1 (λj x k i=>by rw[g3 j k (U j x i)];exact y j x k i) g4 g5 (by omega);rw[wJ rfl Q,Ge rfl]
end
theorem Ox{α:Type}{g:MG}{t:L2.M Bool}{m:L2.M D}(a:aA->Prop)(p:α->Bool)(f:α->D):∀(xs:List α) (ρ:aA) (O:aq) (acc:List D),a ρ->(∀x∈xs,∀ρ,a ρ->∃ρ1,g (f x) ρ=some ρ1/\a ρ1/\t ρ1 O=.ok (p x) O/\m ρ1 O=.ok (f x) O)->dh g t m (xs.map f) ρ O acc=.ok (acc++(xs.filter p).map f) O
 | [],ρ,O,acc,_,_=>by simp[dh]
 |x::xs,ρ,O,acc,h,hs=>by
  obtain⟨ρ1,j,h1,i,d⟩:=hs x zg ρ h
  have c:=λacc=>Ox (g:=g) (t:=t) (m:=m) a p f xs ρ1 O acc h1 λk b=>hs k (zn _ b)
  rw[zh];unfold dh;rw[j];dsimp only;rw[i]
  cases q:p x with
  |true =>
   dsimp only;rw[d];dsimp only;rw[c,List.filter_cons,q];simp
  |false =>
   dsimp only;rw[c,List.filter_cons,q];simp
theorem Qtd(b:Nat):iM (((b+1:Nat):Int) - 1) (b+1)=.int (b:Int)::iM ((b:Int) - 1) b:=by
 unfold iM;rw[List.range_succ_eq_map,zh,zO];congr 1
 ·show D.int _=_;congr 1;omega
 ·refine jm λi _=>?_
  show D.int _=D.int _;congr 1;omega
def Pri(N:Nat)(nodes:Nat->List Nd)(f:Nd->List M3)(d:Nd->Bool)(b:Nat)(a:Tb):Prop:=∀c,b<=c->c<=N->∀n∈nodes c,lk a n=some (fnl d (λn=>lc a (f n)) n)
def B_p:MS:=(oV (aJ sY (aj (aa 0) (aj (aa 2) (aj (aa 1) au)))))
section
variable {t:Nat}{fs:List (Str×D)}{N:Nat}{nodes:Nat->List Nd}{mv:Nd->List M3}{fin:Nd->Bool}{p q:Nat}
theorem Oz(T:Trl t fs N nodes mv fin):∀(b:Nat) (O:aq) (f:Tb) (y:Option D),b<=N+1->O[t]?=some (.ins "Leaps" fs)->O[p]?=some (.dn (tab f))->Pri N nodes mv fin b f->f.length+10 * b<=800000 ->
  ∃k i l,bO (mgN 2) B_p (iM ((b:Int) - 1) b) [some (.ob t),some (.ob p),y] O=.nx [some (.ob t),some (.ob p),l] k/\k[p]?=some (.dn (tab i))/\(∀(j:Nat) (x:Ob),j≠p->O[j]?=some x->k[j]?=some x)/\Pri N nodes mv fin 0 i
 | 0,O,f,y,_,_,hp,hP,_=>⟨O,f,y,rfl,hp,λ_ _ _ h=>h,hP⟩
 |a+1,O,f,y,hb,ht,hp,hP,hl=>by
  have J:a<=N:=by omega
  have E:∀n∈nodes a,∀m∈mv n,(lk f m.other).isSome=true:=λn u m C=>by
   obtain⟨c,c1,B,c3⟩:=T.fw a n J u m C;rw[hP c (by omega) B _ c3];rfl
  obtain⟨Q,g,e,g1,P,L,Z,g5⟩:=Qvo T J ht hp E (by omega);have R:t≠p:=tW ht hp (λz=>nomatch z)
  have F:Pri N nodes mv fin a g:=λc c1 B n u=>by
   have G:∀m∈mv n,lk g m.other=lk f m.other:=λm C=>L _ λz=>by
    obtain⟨d,d1,d2,d3⟩:=T.fw c n B u m C
    have:=T.sp a d _ z d3
    omega
   have eL:lc g (mv n)=lc f (mv n):=wI G
   have eF:fnl fin (λn=>lc g (mv n)) n=fnl fin (λn=>lc f (mv n)) n:=by
    show(if fin n=true then some 0 else lc g (mv n))=_;rw[eL];rfl
   rw[eF]
   by_cases I:c=a
   ·subst I;exact Z n u
   ·rw[L n λz=>I (T.sp c a n u z)];exact hP c (by omega) B n u
  obtain⟨k,i,l,e2,X,W,U⟩:=Oz T a Q g (some (.int (a:Int))) (by omega) (P t _ R ht) g1 F (by omega);refine⟨k,i,l,?_,X,λj x H Y=>W j x H (P j x H Y),U⟩;rw[Qtd];unfold bO;rw[mg_n];dsimp only
  have eb:B_p [some (.ob t),some (.ob p),some (.int (a:Int))] O=.nx [some (.ob t),some (.ob p),some (.int (a:Int))] Q:=by
   unfold B_p;rw[Ke,cF (maS rfl (maS rfl (ma1 rfl))),e,Kf]
  show(match B_p [some (.ob t),some (.ob p),some (.int (a:Int))] O with
   | .nx ρ' k=>bO _ _ (iM ((a:Int) - 1) a) ρ' k | .ct ρ' k=>bO _ _ (iM ((a:Int) - 1) a) ρ' k | .bk ρ' k=>Fl.nx ρ' k | r=>r)=_
  rw[eb];exact e2
theorem Qs4(T:Trl t fs N nodes mv fin){O:aq}(h:O[t]?=some (.ins "Leaps" fs)):∃d a,vH [.ob t] O=.ok (.ob O.length) d/\d[O.length]?=some (.dn (tab a))/\(∀(j:Nat) (x:Ob),O[j]?=some x->d[j]?=some x)/\Pri N nodes mv fin 0 a:=by
 have hN:=T.hN;have f:=(zq.mp h).1
 have b:(O++[Ob.dn []])[t]?=some (.ins "Leaps" fs):=by rw[zC f];exact h
 obtain⟨d,a,r,e,l,k,i⟩:=Oz (p:=O.length) T (N+1) (O++[Ob.dn []]) [] none (zc _) b (by simp[tab]) (λc n u=>absurd n (by omega)) (by simp;omega);refine⟨d,a,?_,l,λj x g=>?_,i⟩
 ·have m:uI (aj (bQ "Leaps" "last_at" fV (mG (aa 0)) au) (aj (mUn lW (mC (.int 1))) (aj (mUn lW (mC (.int 1))) au))) [some (.ob t),some (.ob O.length),none] (O++[Ob.dn []])=.ok (iM (((N+1:Nat):Int) - 1) (N+1)) (O++[Ob.dn []]):=by
   unfold uI;rw[maS ((jy rfl b T.u4 rfl).trans (T.la _ b)) (maS (x:=.int (-1)) rfl (ma1 (x:=.int (-1)) rfl))];dsimp only[aV];rw[if_pos ⟨rfl,by omega,by omega,by decide,by decide⟩];congr 1;rw[show((N:Int) - -1).toNat=N+1 by omega,show(((N+1:Nat):Int) - 1)=(N:Int) by omega]
  unfold B_p at e;show bA (vG [some (.ob t),none,none] O)=_;unfold vG;rw[sq (qy (show rT [some (.ob t),none,none] O=.ok (.ob O.length) (O++[Ob.dn []]) from rfl))];show bA (aC _ _ [some (.ob t),some (.ob O.length),none] (O++[Ob.dn []]))=_;rw[gm,jR,m,jT,e,lC];rfl
 ·have:=(zq.mp g).1
  exact k j x (by omega) (by rw[zC this];exact g)
theorem Gf:∀(l:List Int) (b:Option Int) (c:Int),mdI b l=some c->b=some c\/c∈l
 | [],b,c,h=>.inl (by cases b<;>exact h)
 |n::r,none,c,h=>by
  rcases Gf r (some n) c h with h | h
  ·exact .inr (by rw[zD h];exact zg)
  ·exact .inr (zn _ h)
 |n::r,some m,c,h=>by
  rcases Gf r (some (if n<m then n else m)) c h with h | h
  ·split at h
   ·exact .inr (by rw[zD h];exact zg)
   ·exact .inl h
  ·exact .inr (zn _ h)
theorem OD:∀(l:List Int) (b:Int),∃c,mdI (some b) l=some c
 | [],b=>⟨b,rfl⟩
 |n::r,b=>OD r (if n<b then n else b)
theorem Qyd{l:List Int}(h:l≠[]):∃c,mdI none l=some c:=by
 cases l with
 |nil=>exact absurd rfl h
 |cons n r=>exact OD r n
theorem QxQ(x y:Option Int):gEq (pD x) (pD y)=some (.bl (decide (x=y))):=by
 cases x with
 |none=>cases y<;>rfl
 |some i =>
  cases y with
  |none=>rfl
  |some j =>
   show some (D.bl (decide (i=j)))=_;congr 2;exact decide_eq_decide.mpr ⟨λh=>by rw[h],λh=>zD h⟩
theorem OJ{α:Type}(f:α->Bool)(g:α->D)(h:α->Bool):∀(ms:List α) (m:α),ms.find? f=some m->((ms.filter f).map g)[0]?=some (g m)
 |x::ms,m,e=>by
  rw[List.find?_cons] at e
  cases hx:f x with
  |true =>
   rw[hx] at e;cases e;simp[hx]
  |false =>
   rw[hx] at e;rw[List.filter_cons,hx];exact OJ f g h ms m e
theorem QuX{O:aq}{ps:Tb}{ms:List M3}{c:Int}(k:O[p]?=some (.dn (tab ps)))(l:∀m∈ms,(lk ps m.other).isSome=true)(E:ms.length<=1000)(d:lc ps ms=some c):
  ∃m,ms.find? (λm=>decide (co ps m=lc ps ms))=some m/\m∈ms/\co ps m=some c/\sZ [.lst (ms.map d3),.ob p] O=.ok (d3 m) O:=by
 obtain⟨x,C,f⟩:∃x∈ms,co ps x=some c:=by
  rcases Gf _ _ _ d with h | h
  ·cases h
  ·exact List.mem_filterMap.mp h
 obtain⟨m,b⟩:∃m,ms.find? (λm=>decide (co ps m=lc ps ms))=some m:=by
  cases e:ms.find? (λm=>decide (co ps m=lc ps ms)) with
  |some m=>exact⟨m,rfl⟩
  |none =>
   have:=List.find?_eq_none.mp e x C
   rw[f,d] at this;simp at this
 have g:=List.mem_of_find?_eq_some b
 have i:co ps m=some c:=by
  have:=List.find?_some b
  rw[<-d];exact zV this
 refine⟨m,b,g,i,?_⟩;have B:aJ nW (aj (aa 0) (aj (aa 1) au)) [some (.lst (ms.map d3)),some (.ob p),none] O=.ok (pD (lc ps ms)) O:=(cF (maS rfl (ma1 rfl))).trans (Ol k l E)
 have F:dh (mgN 0) (aB (ak gEq (aJ lG (aj (aa 0) (aj (aa 1) au))) (aa 2))) (aa 0) (ms.map d3) [none,some (.ob p),some (pD (lc ps ms))] O []=.ok ((ms.filter λm=>decide (co ps m=lc ps ms)).map d3) O:=by
  rw[Ox (λρ=>∃a,ρ=[a,some (.ob p),some (pD (lc ps ms))]) (λm=>decide (co ps m=lc ps ms)) d3 ms _ _ _ ⟨none,rfl⟩ (by
   rintro m' hm' ρ ⟨a,rfl⟩
   exact⟨_,rfl,⟨_,rfl⟩,fX (bD ((cF (maS rfl (ma1 rfl))).trans (Oi k (l m' hm'))) (y:=pD (lc ps ms)) rfl (by
    rw[show bK O (pD (co ps m'))=pD (co ps m') by cases co ps m'<;>rfl,show bK O (pD (lc ps ms))=pD (lc ps ms) by cases lc ps ms<;>rfl,QxQ])),rfl⟩)]
  rw[zI]
 have u:eZ (cR (aa 0)) 1 [1,2] (mgN 0) (aB (ak gEq (aJ lG (aj (aa 0) (aj (aa 1) au))) (aa 2))) (aa 0) [some (.lst (ms.map d3)),some (.ob p),some (pD (lc ps ms))] O=.ok (.lst ((ms.filter λm=>decide (co ps m=lc ps ms)).map d3)) O:=qp (lK rfl) (by rw[ze];omega) rfl F
 have n:ak gIx (eZ (cR (aa 0)) 1 [1,2] (mgN 0) (aB (ak gEq (aJ lG (aj (aa 0) (aj (aa 1) au))) (aa 2))) (aa 0)) (mC (.int 0)) [some (.lst (ms.map d3)),some (.ob p),some (pD (lc ps ms))] O=.ok (d3 m) O:=bD u m_c (by
  rw[nD,iT,uW]
  exact(uX (j:=0)).trans (OJ _ d3 (λ_=>true) ms m b))
 show bA (vJ [some (.lst (ms.map d3)),some (.ob p),none] O)=_;unfold vJ;rw[sq (cG B),eG];exact congrArg (λr=>bA (mH r)) n
end
def Wy(ps:Tb)(b:Nd->List M3)(a:Nd->Bool):Nd->List M3->Prop
 |n,[]=>a n=true
 |n,m::ms=>a n=false/\m∈b n/\(b n).find? (λm=>decide (co ps m=lc ps (b n)))=some m/\Wy ps b a m.other ms
def B_y:MS:=(aC (aK 5 (aJ sZ (aj (bQ "Leaps" "moves_from" jV (mG (aa 0)) (aj (aa 2) au)) (aj (aa 1) au))))
  (aC (cO 4 (ak gIx (aa 5) (mC (.int 1))))
  (aK 2 (ak gIx (aa 5) (mC (.int 2))))))
section
variable {t:Nat}{fs:List (Str×D)}{N:Nat}{nodes:Nat->List Nd}{mv:Nd->List M3}{fin:Nd->Bool}{p q:Nat}
theorem Qyl(T:Trl t fs N nodes mv fin){ps:Tb}(H:Pri N nodes mv fin 0 ps){O:aq}(y:O[t]?=some (.ins "Leaps" fs))(P:O[p]?=some (.dn (tab ps)))(g:Option D):∀(k a:Nat) (n:Nd) (c:Int) (nm:List D) (f:Nat) (j:Option D),a+k=N->n∈nodes a->lk ps n=some (some c)->k<f->nm.length+k<1000000 ->
  ∃ms B h,eU (dw (bW (bQ "Leaps" "is_end" jW (mG (aa 0)) (aj (aa 2) au)))) B_y f [some (.ob t),some (.ob p),some (dN n),g,some (.lst nm),j] O=.nx [some (.ob t),some (.ob p),some (dN B),g,some (.lst (nm++ms.map λm=>.str m.name)),h] O/\Wy ps mv fin n ms/\ms.length<=k:=by
 intro k
 induction k using Nat.strongRecOn with
 | _ k ih =>
  intro a n c nm f j hak l Q hf hl;obtain⟨E,rfl⟩:∃E,f=E+1:=⟨f - 1,by omega⟩
  have x:dw (bW (bQ "Leaps" "is_end" jW (mG (aa 0)) (aj (aa 2) au))) [some (.ob t),some (.ob p),some (dN n),g,some (.lst nm),j] O=.ok (!fin n) O:=by
   rw[uU,rZ,(jy rfl y T.u3 (ma1 rfl)).trans (T.ie O a n y (by omega) l),aV,yM,yP,yO,aV]
  cases hfin:fin n with
  |true =>
   rw[hfin] at x;exact⟨[],n,j,by rw[Ge x];simp,hfin,Nat.zero_le _⟩
  |false =>
   rw[hfin] at x
   have R:lc ps (mv n)=some c:=by
    have:=H a (Nat.zero_le _) (by omega) n l
    rw[Q] at this;have h2:some c=fnl fin (λn=>lc ps (mv n)) n:=zD this;unfold fnl at h2;rw[hfin,if_neg zf] at h2;exact h2.symm
   have C:∀m∈mv n,(lk ps m.other).isSome=true:=λm C=>by
    obtain⟨b,Z,I,F⟩:=T.fw a n (by omega) l m C;rw[H b (Nat.zero_le _) I _ F];rfl
   obtain⟨m,Y,u,i,X⟩:=QuX P C (T.ml n) R;obtain⟨b,Z,I,F⟩:=T.fw a n (by omega) l m u
   obtain⟨r,G⟩:∃r,lk ps m.other=some (some r):=by
    unfold co at i;split at i
    ·rename_i r e;exact⟨r,e⟩
    ·cases i
   have L:aJ sZ (aj (bQ "Leaps" "moves_from" jV (mG (aa 0)) (aj (aa 2) au)) (aj (aa 1) au)) [some (.ob t),some (.ob p),some (dN n),g,some (.lst nm),j] O=.ok (d3 m) O:=(cF (maS ((jy rfl y T.u2 (ma1 rfl)).trans (T.mf O a n y (by omega) l)) (ma1 rfl))).trans X
   have U:B_y [some (.ob t),some (.ob p),some (dN n),g,some (.lst nm),j] O=.nx [some (.ob t),some (.ob p),some (dN m.other),g,some (.lst (nm++[.str m.name])),some (d3 m)] O:=by
    unfold B_y;rw[sq (cG L)];show aC _ _ [some (.ob t),some (.ob p),some (dN n),g,some (.lst nm),some (d3 m)] O=_;rw[sq (tQ (d:=.str m.name) (ds:=nm) (bD rfl rfl rfl) rfl (by omega))];rfl
   obtain⟨ms,B,h,W,J,l3⟩:=ih (N - b) (by omega) b m.other r (nm++[.str m.name]) E (some (d3 m)) (by omega) F G (by omega) (by rw[zu,jd];omega);refine⟨m::ms,B,h,?_,⟨hfin,u,Y,J⟩,by rw[zo];omega⟩;rw[wJ x U,W,zB];rfl
theorem Qtl(T:Trl t fs N nodes mv fin)(f:∀(a:Nat) (n:Nd),a<=N->n∈nodes a->fin n=false->mv n≠[]){ps:Tb}(r:Pri N nodes mv fin 0 ps):∀(k a:Nat) (n:Nd),a+k=N->n∈nodes a->∃c,lk ps n=some (some c):=by
 intro k
 induction k using Nat.strongRecOn with
 | _ k ih =>
  intro a n y d;have h1:=r a (Nat.zero_le _) (by omega) n d
  cases hfin:fin n with
  |true =>
   refine⟨0,?_⟩;rw[h1];unfold fnl;rw[hfin,if_pos rfl]
  |false =>
   have h2:lk ps n=some (lc ps (mv n)):=by
    rw[h1];unfold fnl;rw[hfin,if_neg zf]
   obtain⟨m,i⟩:=List.exists_mem_of_ne_nil _ (f a n (by omega) d hfin);obtain⟨b,C,B,x⟩:=T.fw a n (by omega) d m i;obtain⟨c,j⟩:=ih (N - b) (by omega) b m.other (by omega) x
   have g:co ps m=some (m.cost+c):=by
    unfold co;rw[j]
   obtain⟨u,h⟩:=Qyd (l:=(mv n).filterMap (co ps)) (λz=>by
    have:=List.mem_filterMap.mpr ⟨m,i,g⟩
    rw[z] at this
    cases this)
   exact⟨u,by rw[h2];exact congrArg some h⟩
theorem Qy4(T:Trl t fs N nodes mv fin)(i:∀(a:Nat) (n:Nd),a<=N->n∈nodes a->fin n=false->mv n≠[])(I:N<300){O:aq}(k:O[t]?=some (.ins "Leaps" fs)):
  ∃b ps c ms,tE [.ob t] O=.ok (.tup [.int c,.lst (ms.map λm=>.str m.name)]) b/\(∀(j:Nat) (x:Ob),O[j]?=some x->b[j]?=some x)/\Pri N nodes mv fin 0 ps/\lk ps (0,(46,46))=some (some c)/\Wy ps mv fin (0,(46,46)) ms:=by
 obtain⟨b,ps,E,r,l,g⟩:=Qs4 T k;obtain⟨c,f⟩:=Qtl T i g N 0 (0,(46,46)) (zZ _) T.f0;have ht':=l t _ k;obtain⟨ms,G,F,h,u,H⟩:=Qyl T g ht' r (some (.int c)) N 0 (0,(46,46)) c [] 300 none (zZ _) T.f0 f (by omega) (by simp;omega);refine⟨b,ps,c,ms,?_,l,g,f,u⟩;have C:aJ vH (aj (aa 0) au) [some (.ob t),none,none,none,none,none] O=.ok (.ob O.length) b:=(cF (ma1 rfl)).trans E;have B:bQ "Leaps" "first_node" vK (mG (aa 0)) au [some (.ob t),some (.ob O.length),none,none,none,none] b=.ok (dN (0,(46,46))) b:=(jy rfl ht' T.u5 rfl).trans (T.fi b ht')
 have y:dJ (aa 1) (aa 2) [some (.ob t),some (.ob O.length),some (dN (0,(46,46))),none,none,none] b=.ok (.int c) b:=Gb rfl r rfl f;unfold B_y at h;rw[zI] at h;show bA (vL [some (.ob t),none,none,none,none,none] O)=_;unfold vL;rw[sq (qy C)];show bA (aC _ _ [some (.ob t),some (.ob O.length),none,none,none,none] b)=_;rw[sq (cG B)];show bA (aC _ _ [some (.ob t),some (.ob O.length),some (dN (0,(46,46))),none,none,none] b)=_;rw[sq (cG y)];show bA (aC _ _ [some (.ob t),some (.ob O.length),some (dN (0,(46,46))),some (.int c),none,none] b)=_;rw[sq (show aX (aB (jE (aa 3))) (aO (mC .non)) bc [some (.ob t),some (.ob O.length),some (dN (0,(46,46))),some (.int c),none,none] b=.nx [some (.ob t),some (.ob O.length),some (dN (0,(46,46))),some (.int c),none,none] b from rfl)]
 rw[sq (cG (d:=.lst []) (Qz1 rfl (Nat.zero_le _)))];show bA (aC (iK 300 _ _) _ [some (.ob t),some (.ob O.length),some (dN (0,(46,46))),some (.int c),some (.lst []),none] b)=_;unfold iK;rw[sq h];rfl
end
theorem Gg{m:L2.M D}{ρ:aA}{O:aq}{t:List Nat}(h:m ρ O=.ok (.str t) O)(hz:t.length<=1000000):bx bY (aj m au) ρ O=.ok (.int (t.length:Int)) O:=ou (xs:=[.str t]) (ma1 h) (by
 show bY [D.str t]=_
 rw[Zg,if_pos hz])
theorem wK{a b:L2.M D}{ρ:aA}{O:aq}{x y:List Nat}(d:a ρ O=.ok (.str x) O)(hb:b ρ O=.ok (.str y) O)(c:x.length+y.length<=1000000):ak aM a b ρ O=.ok (.str (x++y)) O:=bD d hb (by rw[pC,pC,Y9,if_pos c])
def mi(p:Nat×Nat)(c:Nat):List Nat:=if p.1=c then[] else[91,c,93]
def mg'(p:Nat×Nat)(c:Nat):List Nat:=if p.2=c then[] else[91,47,c,93]
def mbS(p q:Nat×Nat):List Nat:=mi p q.1++mg' p q.2
def mbA(q:Nat×Nat):List Nat:=[91,93]++mi (46,46) q.1++mg' (46,46) q.2
def mb(p q:Nat×Nat):List Nat:=if(mbA q).length<(mbS p q).length then mbA q else mbS p q
theorem wL(p:Nat×Nat)(c:Nat):(mi p c).length<=3:=by unfold mi;split<;>simp
theorem wM(p:Nat×Nat)(c:Nat):(mg' p c).length<=4:=by unfold mg';split<;>simp
theorem O8(p q:Nat×Nat):(mbS p q).length<=7:=by
 unfold mbS;rw[zu]
 have:=wL p q.1
 have:=wM p q.2
 omega
theorem O9(q:Nat×Nat):(mbA q).length<=9:=by
 unfold mbA;rw[zu,zu]
 have:=wL (46,46) q.1
 have:=wM (46,46) q.2
 show 2+_+_<=9;omega
theorem Pa(p q:Nat×Nat):(mb p q).length<=9:=by
 unfold mb
 have:=O8 p q
 have:=O9 q
 split<;>omega
theorem Pb(p:Nat×Nat)(c:Nat)(O:aq):jt [pr p,.str [105,110,107],st c] O=.ok (.str (mi p c)) O:=by
 have a:aK 3 (mIf (aB (ak gEq (aa 1) (mC (.str [105,110,107])))) (mC (.int 0)) (mC (.int 1))) [some (pr p),some (.str [105,110,107]),some (st c),none] O=.nx [some (pr p),some (.str [105,110,107]),some (st c),some (.int 0)] O:=rfl;have t1:aB (ak gEq (ak gIx (aa 0) (aa 3)) (aa 2)) [some (pr p),some (.str [105,110,107]),some (st c),some (.int 0)] O=.ok (decide (p.1=c)) O:=fX (bD (x:=st p.1) (y:=st c) rfl rfl (wB _ _));show bA (pR [some (pr p),some (.str [105,110,107]),some (st c),none] O)=_;unfold pR mi;rw[sq a,eG,nG,t1,aV]
 by_cases h:p.1=c
 ·rw[zl h,if_pos rfl,if_pos h];rfl
 ·rw[zd h,if_neg zf,if_neg h];rw[cF (maS (x:=.str dM) rfl (ma1 (x:=st c) rfl)),Qzk];rfl
theorem Pg(p:Nat×Nat)(c:Nat)(O:aq):jt [pr p,.str [103,114,111,117,110,100],st c] O=.ok (.str (mg' p c)) O:=by
 have a:aK 3 (mIf (aB (ak gEq (aa 1) (mC (.str [105,110,107])))) (mC (.int 0)) (mC (.int 1))) [some (pr p),some (.str [103,114,111,117,110,100]),some (st c),none] O=.nx [some (pr p),some (.str [103,114,111,117,110,100]),some (st c),some (.int 1)] O:=rfl;have t1:aB (ak gEq (ak gIx (aa 0) (aa 3)) (aa 2)) [some (pr p),some (.str [103,114,111,117,110,100]),some (st c),some (.int 1)] O=.ok (decide (p.2=c)) O:=fX (bD (x:=st p.2) (y:=st c) rfl rfl (wB _ _));show bA (pR [some (pr p),some (.str [103,114,111,117,110,100]),some (st c),none] O)=_;unfold pR mg';rw[sq a,eG,nG,t1,aV]
 by_cases h:p.2=c
 ·rw[zl h,if_pos rfl,if_pos h];rfl
 ·rw[zd h,if_neg zf,if_neg h];rw[cF (maS (x:=.str dX) rfl (ma1 (x:=st c) rfl)),Qua];rfl
theorem QsE(p q:Nat×Nat)(O:aq):vA [pr p,pr q] O=.ok (.str (mb p q)) O:=by
 have i:=O8 p q;have j:=O9 q;have g:=wL p q.1;have f:=wM p q.2;have d:=wL (46,46) q.1;have c:=wM (46,46) q.2;have b:ak aM (aJ jt (aj (aa 0) (aj (mC (.str [105,110,107])) (aj (ak gIx (aa 1) (mC (.int 0))) au)))) (aJ jt (aj (aa 0) (aj (mC (.str [103,114,111,117,110,100])) (aj (ak gIx (aa 1) (mC (.int 1))) au)))) [some (pr p),some (pr q),none,none] O=.ok (.str (mbS p q)) O :=
  wK ((cF (maS rfl (maS rfl (ma1 (bD (x:=pr q) (z:=st q.1) rfl rfl rfl))))).trans (Pb p q.1 O)) ((cF (maS rfl (maS rfl (ma1 (bD (x:=pr q) (z:=st q.2) rfl rfl rfl))))).trans (Pg p q.2 O)) (by omega)
 have a:ak aM (ak aM (aJ jU (aj (mC (.str [112,108,97,105,110])) (aj (mC (.str [])) au))) (aJ jt (aj (mC (.tup [.str [46],.str [46]])) (aj (mC (.str [105,110,107])) (aj (ak gIx (aa 1) (mC (.int 0))) au))))) (aJ jt (aj (mC (.tup [.str [46],.str [46]])) (aj (mC (.str [103,114,111,117,110,100])) (aj (ak gIx (aa 1) (mC (.int 1))) au)))) [some (pr p),some (pr q),some (.str (mbS p q)),none] O=.ok (.str (mbA q)) O :=
  wK (wK (x:=[91,93]) ((cF (maS rfl (ma1 rfl))).trans (Qv3 O)) ((cF (maS rfl (maS rfl (ma1 (bD (x:=pr q) (z:=st q.1) rfl rfl rfl))))).trans (Pb (46,46) q.1 O)) (by show 2+_<=_;omega)) ((cF (maS rfl (maS rfl (ma1 (bD (x:=pr q) (z:=st q.2) rfl rfl rfl))))).trans (Pg (46,46) q.2 O)) (by rw[zu];show 2+_+_<=_;omega)
 have t1:aB (ak gLt (bx bY (aj (aa 3) au)) (bx bY (aj (aa 2) au))) [some (pr p),some (pr q),some (.str (mbS p q)),some (.str (mbA q))] O=.ok (decide (((mbA q).length:Int)<(mbS p q).length)) O:=MP (Gg rfl (by omega)) (Gg rfl (by omega));show bA (vz [some (pr p),some (pr q),none,none] O)=_;unfold vz mb;rw[sq (cG b)];show bA (aC _ _ [some (pr p),some (pr q),some (.str (mbS p q)),none] O)=_;rw[sq (cG a)];show bA (aO _ [some (pr p),some (pr q),some (.str (mbS p q)),some (.str (mbA q))] O)=_;rw[eG,nG,t1,aV]
 by_cases h:(mbA q).length<(mbS p q).length
 ·rw[zl (by omega),if_pos rfl,if_pos h];rfl
 ·rw[zd (by omega),if_neg zf,if_neg h];rfl
def lfs(l:List L3)(a:List Nat):List (Str×D):=[("look",.lst (l.map dL)),("inks",.lst (a.map st))]
def nds(l:List L3)(b:List Nat)(a:Nat):List Nd:=if a=0\/a=l.length+1 then[((a:Int),(46,46))] else match l[a - 1]? with
 |some x=>if x.1=32 then b.map λc=>((a:Int),(c,x.2.2)) else[((a:Int),(x.2.1,x.2.2))]
 |none=>[]
def sg(l:List L3)(a:Nat):List Nat:=match l[a]? with
 |some x=>sgn x.1
 |none=>[]
def lmv(l:List L3)(a:List Nat)(n:Nd):List M3:=if n.1=(l.length:Int)+1 then[] else(nds l a (n.1.toNat+1)).map λb=>⟨((mb n.2 b.2).length:Int),mb n.2 b.2++sg l n.1.toNat,b⟩
def oE(l:List L3)(n:Nd):Bool:=decide (n.1=(l.length:Int)+1)
theorem mW{l:List L3}{b:List Nat}{a:Nat}{n:Nd}(h:n∈nds l b a):n.1=(a:Int):=by
 unfold nds at h;split at h
 ·rw[zt.mp h]
 ·split at h
  ·split at h
   ·obtain⟨c,_,rfl⟩:=zz.mp h;rfl
   ·rw[zt.mp h]
  ·cases h
theorem Qwl(c:Nat):(sgn c).length<=2:=by unfold sgn;split<;>simp
theorem Ph(l:List L3)(a:Nat):(sg l a).length<=2:=by
 unfold sg
 split
 ·exact Qwl _
 ·exact Nat.zero_le _
section
variable {O:aq}{t:Nat}{l:List L3}{cs:List Nat}
theorem wN(b:O[t]?=some (.ins "Leaps" (lfs l cs))):fV [.ob t] O=.ok (.int ((l.length:Int)+1)) O:=by
 have h:dz ["Leaps"] "look" (aa 0) [some (.ob t)] O=.ok (.lst (l.map dL)) O:=wA (n:=t) rfl b zg rfl;have a:=oA h;rw[ze] at a;show bA (vo [some (.ob t)] O)=_;unfold vo;rw[eG,mR a rfl];rfl
theorem Pj{k:Nat}{x:L3}(h:l[k]?=some x):gIx (.lst (l.map dL)) (.int (k:Int))=some (dL x):=by
 rw[uW,uX,zA,h];rfl
theorem Pk(f:O[t]?=some (.ins "Leaps" (lfs l cs)))(E:cs.length<=100){a:Nat}(F:a<=l.length+1):mO [.ob t,.int (a:Int)] O=.ok (.lst ((nds l cs a).map dN)) O:=by
 have r:bQ "Leaps" "last_at" fV (aa 0) au [some (.ob t),some (.int (a:Int)),none] O=.ok (.int ((l.length:Int)+1)) O:=(jy rfl f rfl rfl).trans (wN f);have t1:aB (ak gEq (aa 1) (mC (.int 0))) [some (.ob t),some (.int (a:Int)),none] O=.ok (decide ((a:Int)=0)) O:=qi rfl rfl;have t2:aB (ak gEq (aa 1) (bQ "Leaps" "last_at" fV (aa 0) au)) [some (.ob t),some (.int (a:Int)),none] O=.ok (decide ((a:Int)=(l.length:Int)+1)) O:=qi rfl r;show bA (vq [some (.ob t),some (.int (a:Int)),none] O)=_;unfold vq nds
 by_cases h:a=0\/a=l.length+1
 ·have i:cB (aB (ak gEq (aa 1) (mC (.int 0)))) (aB (ak gEq (aa 1) (bQ "Leaps" "last_at" fV (aa 0) au))) [some (.ob t),some (.int (a:Int)),none] O=.ok true O:=by
   rw[iU,t1,aV]
   by_cases h0:a=0
   ·rw[zl (by omega),if_pos rfl]
   ·rw[zd (by omega),if_neg zf,t2,zl (by omega)]
  rw[if_pos h,gm,ifY i];rfl
 ·have i:cB (aB (ak gEq (aa 1) (mC (.int 0)))) (aB (ak gEq (aa 1) (bQ "Leaps" "last_at" fV (aa 0) au))) [some (.ob t),some (.int (a:Int)),none] O=.ok false O:=by
   rw[zd (by omega)] at t1;rw[zd (by omega)] at t2;exact Fi t1 t2
  rw[if_neg h,sq (ifN i)]
  have k:a - 1<l.length:=by omega
  have j:l[a - 1]?=some l[a - 1]:=zx k
  generalize l[a - 1]=x at j
  rw[j];have B:dz ["Leaps"] "look" (aa 0) [some (.ob t),some (.int (a:Int)),none] O=.ok (.lst (l.map dL)) O:=wA (n:=t) rfl f zg rfl
  have q:ak gIx (dz ["Leaps"] "look" (aa 0)) (ak m7 (aa 1) (mC (.int 1))) [some (.ob t),some (.int (a:Int)),none] O=.ok (dL x) O:=bD B (QzK rfl rfl) (by
   rw[nD,iT,show(a:Int) - 1=((a - 1:Nat):Int) by omega]
   exact Pj j)
  rw[sq (cG q)];show bA (aC _ _ [some (.ob t),some (.int (a:Int)),some (dL x)] O)=_;have d:aB (ak gEq (ak gIx (aa 2) (mC (.int 0))) (mC (.str [32]))) [some (.ob t),some (.int (a:Int)),some (dL x)] O=.ok (decide (x.1=32)) O:=fX (bD (x:=st x.1) (y:=st 32) rfl rfl (wB _ _));dsimp only
  by_cases h3:x.1=32
  ·rw[zl h3] at d;have u:dz ["Leaps"] "inks" (aa 0) [some (.ob t),some (.int (a:Int)),some (dL x)] O=.ok (.lst (cs.map st)) O:=wA (n:=t) rfl f zg rfl
   have cl:=sI (g:=mgN 0) (t:=iz) (m:=bT (aj (mG (aa 1)) (aj (bT (aj (aa 0) (aj (ak gIx (aa 2) (mC (.int 2))) au))) au))) (λρ=>∃b,ρ=[b,some (.int (a:Int)),some (dL x)]) st (λc=>dN ((a:Int),(c,x.2.2))) cs [none,some (.int (a:Int)),some (dL x)] O [] ⟨_,rfl⟩ (by
    rintro c _ ρ ⟨b,rfl⟩
    exact⟨_,rfl,⟨_,rfl⟩,rfl,rfl⟩)
   rw[zI] at cl;have C:=qp (own:=1) (cap:=[1,2]) (lK u) (by rw[ze];omega) rfl cl;rw[if_pos h3,gm,ifY d,eG,C,zO];rfl
  ·rw[zd h3] at d;rw[if_neg h3,sq (ifN d)];rfl
def wO:MS:=(aC (aK 6 (aJ vA (aj (ak gIx (aa 1) (mC (.int 1))) (aj (ak gIx (aa 5) (mC (.int 1))) au))))
  (cO 4 (bT (aj (bx bY (aj (aa 6) au)) (aj (ak aM (aa 6) (aa 3)) (aj (aa 5) au))))))
theorem Pn(n:Nd)(s:List Nat)(hs:s.length<=2)(f a2:Option D):∀(bs:List Nd) (acc:List D) (h g:Option D),acc.length+bs.length<1000000->∃c a,bO (mgN 5) wO (bs.map dN) [f,some (dN n),a2,some (.str s),some (.lst acc),h,g] O=.nx [f,some (dN n),a2,some (.str s),some (.lst (acc++bs.map λb=>d3 ⟨((mb n.2 b.2).length:Int),mb n.2 b.2++s,b⟩)),c,a] O
 | [],acc,h,g,_=>⟨h,g,by rw[zL,zL,zU];rfl⟩
 |b::bs,acc,h,g,hl=>by
  rw[zo] at hl;have j:=Pa n.2 b.2;obtain⟨c,a,e⟩:=Pn n s hs f a2 bs (acc++[d3 ⟨((mb n.2 b.2).length:Int),mb n.2 b.2++s,b⟩]) (some (dN b)) (some (.str (mb n.2 b.2))) (by rw[zu,jd];omega);refine⟨c,a,?_⟩
  have i:wO [f,some (dN n),a2,some (.str s),some (.lst acc),some (dN b),g] O=.nx [f,some (dN n),a2,some (.str s),some (.lst (acc++[d3 ⟨((mb n.2 b.2).length:Int),mb n.2 b.2++s,b⟩])),some (dN b),some (.str (mb n.2 b.2))] O:=by
   unfold wO;rw[sq (cG ((cF (maS (bD (x:=dN n) (z:=pr n.2) rfl rfl rfl) (ma1 (bD (x:=dN b) (z:=pr b.2) rfl rfl rfl)))).trans (QsE n.2 b.2 O)))];show cO 4 _ [f,some (dN n),a2,some (.str s),some (.lst acc),some (dN b),some (.str (mb n.2 b.2))] O=_;rw[tQ (ds:=acc) (d:=d3 ⟨((mb n.2 b.2).length:Int),mb n.2 b.2++s,b⟩) (qg (maS (Gg rfl (by omega)) (maS (wK rfl rfl (by omega)) (ma1 rfl))) (show(3:Nat)<=1000000 by decide)) rfl (by omega)];rfl
  rw[zh,M4 rfl i,e,zB];rfl
theorem QvR(b:O[t]?=some (.ins "Leaps" (lfs l cs)))(f:cs.length<=100){a:Nat}(E:a<=l.length+1){n:Nd}(u:n∈nds l cs a):jV [.ob t,dN n] O=.ok (.lst ((lmv l cs n).map d3)) O:=by
 have h1:=mW u;have m:aK 2 (ak gIx (aa 1) (mC (.int 0))) [some (.ob t),some (dN n),none,none,none,none,none] O=.nx [some (.ob t),some (dN n),some (.int n.1),none,none,none,none] O:=rfl;have r:bQ "Leaps" "last_at" fV (aa 0) au [some (.ob t),some (dN n),some (.int n.1),none,none,none,none] O=.ok (.int ((l.length:Int)+1)) O:=(jy rfl b rfl rfl).trans (wN b);have t1:aB (ak gEq (aa 2) (bQ "Leaps" "last_at" fV (aa 0) au)) [some (.ob t),some (dN n),some (.int n.1),none,none,none,none] O=.ok (decide (n.1=(l.length:Int)+1)) O:=qi rfl r;show bA (vB [some (.ob t),some (dN n),none,none,none,none,none] O)=_
 unfold vB lmv;rw[sq m]
 by_cases h:n.1=(l.length:Int)+1
 ·rw[zl h] at t1;rw[if_pos h,gm,ifY t1];rfl
 ·rw[zd h] at t1;rw[if_neg h,sq (ifN t1)];have g:dz ["Leaps"] "look" (aa 0) [some (.ob t),some (dN n),some (.int n.1),none,none,none,none] O=.ok (.lst (l.map dL)) O:=wA (n:=t) rfl b zg rfl;have d:=oA g;rw[ze] at d
  have j:n.1.toNat=a:=by omega
  have k:mIf (aB (ak gLt (aa 2) (bx bY (aj (dz ["Leaps"] "look" (aa 0)) au)))) (aJ jU (aj (mC (.str [115,105,103,110])) (aj (ak gIx (ak gIx (dz ["Leaps"] "look" (aa 0)) (aa 2)) (mC (.int 0))) au))) (mC (.str [])) [some (.ob t),some (dN n),some (.int n.1),none,none,none,none] O=.ok (.str (sg l n.1.toNat)) O:=by
   rw[nG,MP (i:=n.1) rfl d,aV,j];unfold sg
   by_cases c:a<l.length
   ·rw[zl (by omega),if_pos rfl,zx c];exact(cF (maS (x:=.str bF) rfl (ma1 (bD (x:=dL l[a]) (z:=st l[a].1) (bD g rfl (by rw[nD,iT,h1];exact Pj (zx c))) rfl rfl)))).trans (Qxs _ O)
   ·rw[zd (by omega),if_neg zf,jg (by omega)];rfl
  rw[sq (cG k)];show bA (aC _ _ [some (.ob t),some (dN n),some (.int n.1),some (.str (sg l n.1.toNat)),none,none,none] O)=_;rw[sq (show aK 4 (bV au) [some (.ob t),some (dN n),some (.int n.1),some (.str (sg l n.1.toNat)),none,none,none] O=.nx [some (.ob t),some (dN n),some (.int n.1),some (.str (sg l n.1.toNat)),some (.lst []),none,none] O from rfl)]
  have q:bQ "Leaps" "nodes_at" mO (aa 0) (aj (ak aM (aa 2) (mC (.int 1))) au) [some (.ob t),some (dN n),some (.int n.1),some (.str (sg l n.1.toNat)),some (.lst []),none,none] O=.ok (.lst ((nds l cs (n.1.toNat+1)).map dN)) O:=by
   refine(jy (ds:=[.int ((n.1.toNat+1:Nat):Int)]) rfl b rfl (ma1 ((mR (i:=n.1) rfl rfl).trans ?_))).trans (Pk b f (by omega));congr 2;omega
  have y:(nds l cs (n.1.toNat+1)).length<=100:=by
   unfold nds
   split
   ·show 1<=100;decide
   ·split
    ·split
     ·rw[ze];exact f
     ·show 1<=100;decide
    ·exact Nat.zero_le _
  obtain⟨C,B,e⟩:=Pn (O:=O) n (sg l n.1.toNat) (Ph _ _) (some (.ob t)) (some (.int n.1)) (nds l cs (n.1.toNat+1)) [] none none (by rw[zJ];omega);unfold wO at e;rw[gm,jR,lK q,jT,e,lC,zI,zO];rfl
theorem Qu1(a:O[t]?=some (.ins "Leaps" (lfs l cs)))(n:Nd):jW [.ob t,dN n] O=.ok (.bl (oE l n)) O:=by
 have b:bQ "Leaps" "last_at" fV (aa 0) au [some (.ob t),some (dN n)] O=.ok (.int ((l.length:Int)+1)) O:=(jy rfl a rfl rfl).trans (wN a);show bA (vC [some (.ob t),some (dN n)] O)=_;unfold vC;rw[eG,bD (g:=gEq) (x:=.int n.1) (z:=.bl (decide (n.1=(l.length:Int)+1))) (bD (x:=dN n) (z:=.int n.1) rfl rfl rfl) b rfl];rfl
end
theorem Gh(t:Nat){l:List L3}{cs:List Nat}(hl:l.length<=250)(hc:cs.length<=10)(hcn:cs.Nodup):Trl t (lfs l cs) (l.length+1) (nds l cs) (lmv l cs) (oE l) where
 na:=λO a ht ha=>Pk ht (by omega) ha
 mf:=λO a n ht ha hn=>QvR ht (by omega) ha hn
 ie:=λO a n ht _ _=>Qu1 ht n
 la:=λO ht=>wN ht
 fi:=λO ht=>rfl
 f0:=by
  unfold nds;rw[if_pos (.inl rfl)];exact zg
 nd:=λa=>by
  unfold nds
  split
  ·exact List.pairwise_singleton _ _
  ·split
   ·split
    ·refine List.Pairwise.map _ (R:=λa b=>a≠b) (λa b h z=>h ?_) hcn;exact congrArg (λn:Nd=>n.2.1) z
    ·exact List.pairwise_singleton _ _
   ·exact List.nodup_nil
 ln:=λa=>by
  unfold nds
  split
  ·show 1<=10;decide
  ·split
   ·split
    ·rw[ze];exact hc
    ·show 1<=10;decide
   ·exact Nat.zero_le _
 fw:=λa n ha hn m hm=>by
  have h1:=mW hn;unfold lmv at hm;split at hm
  ·cases hm
  ·rename_i hne;obtain⟨b,hb,rfl⟩:=zz.mp hm
   have ta:n.1.toNat=a:=by omega
   rw[ta] at hb;exact⟨a+1,by omega,by omega,hb⟩
 sp:=λa b n h1 h2=>by
  have:=mW h1
  have:=mW h2
  omega
 ml:=λn=>by
  unfold lmv
  split
  ·exact Nat.zero_le _
  ·rw[ze];unfold nds
   split
   ·show 1<=1000;decide
   ·split
    ·split
     ·rw[ze];omega
     ·show 1<=1000;decide
    ·exact Nat.zero_le _
 fe:=λn h=>by
  unfold lmv;rw[if_pos (zV h)]
 u1:=rfl
 u2:=rfl
 u3:=rfl
 u4:=rfl
 u5:=rfl
 hN:=by omega
theorem Pq:∀(n m:Nat) (t:List Nat),t.length<=n->t.length<=m->kvf n t=kvf m t
 | 0,m,t,h,_=>by
  cases t with
  |nil=>cases m<;>rfl
  |cons c t=>simp at h
 |n+1,0,t,_,h=>by
  cases t with
  |nil=>rfl
  |cons c t=>simp at h
 |n+1,m+1,[],_,_=>rfl
 |n+1,m+1,c::r,h,h'=>by
  simp only[zo] at h h';show _::_=_::_;rw[Pq n m _ (by rw[List.length_drop];omega) (by rw[List.length_drop];omega)]
def kv(t:List Nat):List (List Nat×List Nat):=kvf t.length t
theorem tY(c:Nat)(r:List Nat):kv (c::r)=((one c r).1,(one c r).2.1)::kv (r.drop (one c r).2.2):=by
 show((one c r).1,(one c r).2.1)::kvf r.length (r.drop (one c r).2.2)=_;unfold kv;rw[Pq r.length (r.drop (one c r).2.2).length _ (by rw[List.length_drop];omega) (zc _)]
theorem Qt6(r:List Nat):kv (91::93::r)=(iC,[])::kv r:=by
 rw[tY];rfl
theorem QwY{c:Nat}(h:col c=true)(r:List Nat):kv (91::c::93::r)=(dM,[c])::kv r:=by
 have q:=mJ h
 have e:one 91 (c::93::r)=(dM,[c],2):=by
  show(if c=93 then _ else if c=91 then _ else if col c=true then fU c (93::r) else _)=_;rw[if_neg q.2.1,if_neg q.1,if_pos h];rfl
 rw[tY,e];rfl
theorem Qsq{c:Nat}(h:col c=true)(r:List Nat):kv (91::47::c::93::r)=(dX,[c])::kv r:=by
 have e:one 91 (47::c::93::r)=(dX,[c],3):=by
  show(if col c=true then gQ c (93::r) else _)=_;rw[if_pos h];rfl
 rw[tY,e];rfl
theorem Qws{c:Nat}(h:32<=c)(r:List Nat):kv (sgn c++r)=(bF,[c])::kv r:=by
 unfold sgn
 by_cases a:c=91
 ·subst a;rw[if_pos rfl];show kv (91::91::r)=_;rw[tY];rfl
 ·rw[if_neg a];show kv (c::r)=_
  have e:one c r=(bF,[c],0):=by
   unfold one;rw[if_neg (by omega),if_neg (by omega),if_neg a]
  rw[tY,e];rfl
theorem QtC(r:List (List Nat×List Nat))(i g:List Nat)(acc:List D):shF ((iC,[])::r) i g acc=shF r [46] [46] acc:=by
 rw[qw (by decide)];rfl
theorem Qyg(c:Nat)(r:List (List Nat×List Nat))(i g:List Nat)(acc:List D):shF ((dM,[c])::r) i g acc=shF r [c] g acc:=by
 rw[qw (by decide)];rfl
theorem Qr6(c:Nat)(r:List (List Nat×List Nat))(i g:List Nat)(acc:List D):shF ((dX,[c])::r) i g acc=shF r i [c] acc:=by
 rw[qw (by decide)];rfl
theorem Qwc(c:Nat)(r:List (List Nat×List Nat))(i g:List Nat)(acc:List D):shF ((bF,[c])::r) i g acc=shF r i g (acc++[.tup [.str [c],.str (shI [c] i),.str g]]):=by
 rw[qw (by decide)];rfl
theorem Pu(p:Nat×Nat){c:Nat}(h:col c=true)(r:List Nat)(g:List Nat)(acc:List D):shF (kv (mi p c++r)) [p.1] g acc=shF (kv r) [c] g acc:=by
 unfold mi
 by_cases e:p.1=c
 ·rw[if_pos e,e];rfl
 ·rw[if_neg e];show shF (kv (91::c::93::r)) [p.1] g acc=_;rw[QwY h,Qyg]
theorem Px(p:Nat×Nat){c:Nat}(h:col c=true)(r:List Nat)(i:List Nat)(acc:List D):shF (kv (mg' p c++r)) i [p.2] acc=shF (kv r) i [c] acc:=by
 unfold mg'
 by_cases e:p.2=c
 ·rw[if_pos e,e];rfl
 ·rw[if_neg e];show shF (kv (91::47::c::93::r)) i [p.2] acc=_;rw[Qsq h,Qr6]
theorem Qzx(p:Nat×Nat){q:Nat×Nat}(h1:col q.1=true)(h2:col q.2=true)(r:List Nat)(acc:List D):shF (kv (mb p q++r)) [p.1] [p.2] acc=shF (kv r) [q.1] [q.2] acc:=by
 unfold mb
 split
 ·unfold mbA;rw[zB,zB];show shF (kv (91::93::(mi (46,46) q.1++(mg' (46,46) q.2++r)))) [p.1] [p.2] acc=_;rw[Qt6,QtC];exact(Pu (46,46) h1 _ [46] acc).trans (Px (46,46) h2 r [q.1] acc)
 ·unfold mbS;rw[zB,Pu p h1,Px p h2]
theorem qC{c:Nat}(h:col c=true):32<=c/\c<=125:=by
 have:c∈[97,98,99,100,101,102,103,104,46]:=zV h
 have q:∀c∈[97,98,99,100,101,102,103,104,46],32<=c/\c<=125:=by decide
 exact q c this
theorem Py(p:Nat×Nat){c:Nat}(h:col c=true):∀x∈mi p c,32<=x/\x<=125:=by
 unfold mi
 split
 ·intro x a;cases a
 ·intro x a
  have:=qC h
  simp at a
  omega
theorem Pz(p:Nat×Nat){c:Nat}(h:col c=true):∀x∈mg' p c,32<=x/\x<=125:=by
 unfold mg'
 split
 ·intro x a;cases a
 ·intro x a
  have:=qC h
  simp at a
  omega
theorem PB(p:Nat×Nat){q:Nat×Nat}(h1:col q.1=true)(h2:col q.2=true):∀x∈mb p q,32<=x/\x<=125:=by
 intro x a;unfold mb at a;split at a
 ·unfold mbA at a
  rcases zE.mp a with a | a
  ·rcases zE.mp a with a | a
   ·simp at a
    omega
   ·exact Py _ h1 x a
  ·exact Pz _ h2 x a
 ·unfold mbS at a
  rcases zE.mp a with a | a
  ·exact Py _ h1 x a
  ·exact Pz _ h2 x a
theorem QvQ{c:Nat}(h:32<=c/\c<=125):∀x∈sgn c,32<=x/\x<=125:=by
 unfold sgn
 split
 ·intro x a;simp at a;omega
 ·intro x a;simp at a;omega
def txt(ms:List M3):List Nat:=(ms.map (·.name)).flatten
theorem Gi(m:M3)(ms:List M3):txt (m::ms)=m.name++txt ms:=rfl
structure LkT(l:List L3)(cs:List Nat):Prop where
 ll:l.length<=250
 lo:∀x∈l,OkL x
 cl:cs.length<=10
 cn:cs.Nodup
 cc:∀c∈cs,col c=true
 c0:cs≠[]
 li:∀x∈l,col x.2.1=true
 lg:∀x∈l,col x.2.2=true
theorem PJ{l:List L3}{f:List Nat}(h:LkT l f){a:Nat}{n:Nd}(b:n∈nds l f a):col n.2.1=true/\col n.2.2=true:=by
 unfold nds at b;split at b
 ·rw[zt.mp b];exact⟨rfl,rfl⟩
 ·split at b
  ·rename_i x g;have d:=zH g;split at b
   ·obtain⟨c,i,rfl⟩:=zz.mp b;exact⟨h.cc c i,h.lg x d⟩
   ·rw[zt.mp b];exact⟨h.li x d,h.lg x d⟩
  ·cases b
theorem Gj{l:List L3}{r:List Nat}(h:LkT l r){ps:Tb}:∀(ms:List M3) (a:Nat) (n:Nd) (acc:List D),a<=l.length+1->n∈nds l r a->Wy ps (lmv l r) (oE l) n ms->shF (kv (txt ms)) [n.2.1] [n.2.2] acc=some (acc++(l.drop a).map dL)/\(txt ms).length<=11 * (l.length+1 - a)/\∀x∈txt ms,32<=x/\x<=125
 | [],a,n,acc,ha,hn,w=>by
  have h1:=mW hn;have E:n.1=(l.length:Int)+1:=zV w
  have e:a=l.length+1:=by omega
  unfold nds at hn;rw[if_pos (.inr e)] at hn;rw[zt.mp hn,List.drop_eq_nil_of_le (by omega),zL,zU];exact⟨rfl,Nat.zero_le _,λx g=>(nomatch g)⟩
 |m::ms,a,n,acc,ha,hn,⟨E,hm,_,w⟩=>by
  have h1:=mW hn;have B:¬n.1=(l.length:Int)+1:=of_decide_eq_false E;unfold lmv at hm;rw[if_neg B] at hm;obtain⟨b,f,rfl⟩:=zz.mp hm
  have C:n.1.toNat=a:=by omega
  rw[C] at f
  have H:a<l.length+1:=by omega
  obtain⟨u,t⟩:=PJ h f;have I:=Pa n.2 b.2;have ls:=Ph l a;rw[Gi];show shF (kv ((mb n.2 b.2++sg l n.1.toNat)++txt ms)) [n.2.1] [n.2.2] acc=_/\((mb n.2 b.2++sg l n.1.toNat)++txt ms).length<=_/\∀x∈(mb n.2 b.2++sg l n.1.toNat)++txt ms,_;rw[C,zB,Qzx n.2 u t]
  by_cases k:a<l.length
  ·have g:l[a]?=some l[a]:=zx k;have ok:=h.lo _ (jp k);have hd:l.drop a=l[a]::l.drop (a+1):=List.drop_eq_getElem_cons k
   generalize l[a]=x at g ok hd
   have q:sg l a=sgn x.1:=by unfold sg;rw[g]
   rw[q] at ls ⊢;obtain⟨j,F,i⟩:=Gj h ms (a+1) b (acc++[dL x]) (by omega) f w
   have G:D.tup [.str [x.1],.str (shI [x.1] [b.2.1]),.str [b.2.2]]=dL x:=by
    unfold nds at f;rw[if_neg (by omega),Nat.add_sub_cancel,g] at f;dsimp only at f;unfold shI
    by_cases h3:x.1=32
    ·rw[if_pos h3] at f;obtain⟨c,_,rfl⟩:=zz.mp f;rw[if_pos (by rw[h3])];show D.tup [.str [x.1],.str [46],.str [x.2.2]]=.tup [.str [x.1],.str [x.2.1],.str [x.2.2]];rw[ok.2 h3]
    ·rw[if_neg h3] at f;rw[zt.mp f,if_neg (λz=>h3 (by injection z))];rfl
   rw[Qws ok.1.1,Qwc,G,j,hd,zh,zB];refine⟨rfl,?_,λy d=>?_⟩
   ·rw[zu,zu];omega
   ·rcases zE.mp d with d | d
    ·exact PB _ u t y d
    ·rcases zE.mp d with d | d
     ·exact QvQ ok.1 y d
     ·exact i y d
  ·obtain⟨j,F,i⟩:=Gj h ms (a+1) b acc (by omega) f w
   have q:sg l a=[]:=by unfold sg;rw[jg (by omega)]
   rw[q,zI,j,List.drop_eq_nil_of_le (by omega),List.drop_eq_nil_of_le (by omega)];refine⟨rfl,?_,λy d=>?_⟩
   ·rw[zu];omega
   ·rcases zE.mp d with d | d
    ·exact PB _ u t y d
    ·exact i y d
section
variable {t:Nat}{fs:List (Str×D)}{N:Nat}{nodes:Nat->List Nd}{mv:Nd->List M3}{fin:Nd->Bool}
theorem Quf(T:Trl t fs N nodes mv fin){ps c:Tb}(h:Pri N nodes mv fin 0 ps)(h':Pri N nodes mv fin 0 c):∀(k a:Nat) (n:Nd),a+k=N->n∈nodes a->lk c n=lk ps n:=by
 intro k
 induction k using Nat.strongRecOn with
 | _ k ih =>
  intro a n i d
  have e:lc c (mv n)=lc ps (mv n):=wI λm f=>by
   obtain⟨b,l,j,g⟩:=T.fw a n (by omega) d m f;exact ih (N - b) (by omega) b m.other (by omega) g
  rw[h a (Nat.zero_le _) (by omega) n d,h' a (Nat.zero_le _) (by omega) n d];unfold fnl;dsimp only;rw[e]
theorem PK{α:Type}{f g:α->Bool}:∀{l:List α},(∀x∈l,f x=g x)->l.find? f=l.find? g
 | [],_=>rfl
 |x::l,h=>by
  rw[List.find?_cons,List.find?_cons,h x zg,PK λy a=>h y (zn _ a)]
theorem PL(T:Trl t fs N nodes mv fin){ps c:Tb}(h:Pri N nodes mv fin 0 ps)(h':Pri N nodes mv fin 0 c):∀(ms d:List M3) (a:Nat) (n:Nd),a<=N->n∈nodes a->Wy ps mv fin n ms->Wy c mv fin n d->d=ms
 | [],[],_,_,_,_,_,_=>rfl
 | [],m'::d,a,n,_,_,w,w'=>by
  have j:fin n=true:=w;have f:fin n=false:=w'.1;rw[j] at f;cases f
 |m::ms,[],a,n,_,_,w,w'=>by
  have j:fin n=true:=w';have f:fin n=false:=w.1;rw[j] at f;cases f
 |m::ms,m'::d,a,n,ha,hn,⟨_,hm,f1,w⟩,⟨_,hm',f2,w'⟩=>by
  have g:∀x∈mv n,lk c x.other=lk ps x.other:=λx i=>by
   obtain⟨b,u,l,k⟩:=T.fw a n ha hn x i;exact Quf T h h' (N - b) b x.other (by omega) k
  have e:lc c (mv n)=lc ps (mv n):=wI g
  have r:(mv n).find? (λm=>decide (co c m=lc c (mv n)))=(mv n).find? (λm=>decide (co ps m=lc ps (mv n))):=PK λx i=>by
   have:co c x=co ps x:=by
    unfold co;rw[g x i]
   rw[this,e]
  rw[r,f1] at f2;have q:=zD f2;subst q;obtain⟨b,u,l,k⟩:=T.fw a n ha hn m hm;rw[PL T h h' ms d b m.other l k w w']
end
theorem QxY{l:List L3}{b:List Nat}(h:LkT l b)(a:Nat)(c:a<=l.length+1):nds l b a≠[]:=by
 unfold nds
 split
 ·exact List.cons_ne_nil _ _
 ·rw[zx (show a - 1<l.length by omega)];dsimp only
  split
  ·intro z;exact h.c0 (List.map_eq_nil_iff.mp z)
  ·exact List.cons_ne_nil _ _
theorem QwZ{l:List L3}{b:List Nat}(h:LkT l b)(a:Nat)(n:Nd)(g:a<=l.length+1)(d:n∈nds l b a)(f:oE l n=false):lmv l b n≠[]:=by
 have h1:=mW d;have c:¬n.1=(l.length:Int)+1:=of_decide_eq_false f;unfold lmv;rw[if_neg c];intro z;exact QxY h (n.1.toNat+1) (by omega) (List.map_eq_nil_iff.mp z)
theorem PN:∀ms:List M3,jM (ms.map λm=>D.str m.name)=some (ms.map (·.name))
 | []=>rfl
 |m::ms=>by
  show(jM (ms.map λm=>D.str m.name)).map (m.name :: ·)=_;rw[PN ms];rfl
theorem PP:∀ms:List M3,((ms.map (·.name)).map List.length).sum=(txt ms).length
 | []=>rfl
 |m::ms=>by
  rw[Gi,zu,<-PP ms];rfl
def PQ(l:List L3):List (Str×D):=[("look",.lst (l.map dL))]
theorem pfl(l:List L3):putD "look" (.lst (l.map dL)) []=PQ l:=rfl
theorem QvE(O:aq){l:List L3}{a:List Nat}(b:∀O,nZ [.lst (l.map dL),.int 1] O=.ok (.lst (a.map st)) O):tG [.ob O.length,.lst (l.map dL)] (O++[.ins "Leaps" []])=.ok .non (O++[.ins "Leaps" (lfs l a)]):=by
 show bA (vO [some (.ob O.length),some (.lst (l.map dL))] (O++[.ins "Leaps" []]))=_;unfold vO;rw[sq (M8 (n:=O.length) (c:="Leaps") (fs:=[]) (Nb (d:=.lst (l.map dL)) rfl rfl) rfl Ft zg (by decide)),M9,pfl];rw[M8 (n:=O.length) (c:="Leaps") (fs:=PQ l) ((cF (maS rfl (ma1 rfl))).trans (b _)) rfl Ft zg (by show 1<900;decide),M9];rfl
def lr(t:List Nat):List D:=lrf t.length t
theorem Qve(c:Nat)(r:List Nat):lr (c::r)=rd c r::lr (r.drop (one c r).2.2):=by
 show rd c r::lrf r.length (r.drop (one c r).2.2)=_;unfold lr;rw[FW r.length (r.drop (one c r).2.2).length _ (by rw[List.length_drop];omega) (zc _)]
def Gd(d:D):Prop:=∃(k v:List Nat) (z:Int),d=.tup [.str k,.str v,.int z]/\(k=bF->v=[91]->z=2)
def GdT(t:List Nat):Prop:=∀d∈lr t,Gd d
theorem tZ{c:Nat}{r:List Nat}(h:(one c r).1=bF->rv c r=[91]->(one c r).2.2=1)(h2:GdT (r.drop (one c r).2.2)):GdT (c::r):=λd hd=>by
 rw[Qve] at hd
 rcases zk.mp hd with rfl | hd
 ·refine⟨(one c r).1,rv c r,_,rfl,λa b=>?_⟩
  have:=h a b
  omega
 ·exact h2 d hd
theorem Qtr{r:List Nat}(h:GdT r):GdT (91::93::r):=tZ (λz=>by cases z) h
theorem Qw3{c:Nat}(a:col c=true){r:List Nat}(h:GdT r):GdT (91::c::93::r):=by
 have q:=mJ a
 have e:one 91 (c::93::r)=(dM,[c],2):=by
  show(if c=93 then _ else if c=91 then _ else if col c=true then fU c (93::r) else _)=_;rw[if_neg q.2.1,if_neg q.1,if_pos a];rfl
 refine tZ (λz=>?_) ?_
 ·rw[e] at z;cases z
 ·rw[e];exact h
theorem Qr2{c:Nat}(a:col c=true){r:List Nat}(h:GdT r):GdT (91::47::c::93::r):=by
 have e:one 91 (47::c::93::r)=(dX,[c],3):=by
  show(if col c=true then gQ c (93::r) else _)=_;rw[if_pos a];rfl
 refine tZ (λz=>?_) ?_
 ·rw[e] at z;cases z
 ·rw[e];exact h
theorem Qu8{c:Nat}(b:32<=c){r:List Nat}(h:GdT r):GdT (sgn c++r):=by
 unfold sgn
 by_cases a:c=91
 ·rw[if_pos a];exact tZ (c:=91) (r:=91::r) (λ_ _=>rfl) h
 ·rw[if_neg a];show GdT (c::r)
  have e:one c r=(bF,[c],0):=by
   unfold one;rw[if_neg (by omega),if_neg (by omega),if_neg a]
  refine tZ (λ_ z=>?_) ?_
  ·exfalso
   unfold rv at z;rw[if_neg (by omega),e] at z
   injection z with z
   exact a z
  ·rw[e];exact h
theorem PX(p:Nat×Nat){c:Nat}(a:col c=true){r:List Nat}(h:GdT r):GdT (mi p c++r):=by
 unfold mi
 split
 ·exact h
 ·exact Qw3 a h
theorem P0(p:Nat×Nat){c:Nat}(a:col c=true){r:List Nat}(h:GdT r):GdT (mg' p c++r):=by
 unfold mg'
 split
 ·exact h
 ·exact Qr2 a h
theorem QzI(p:Nat×Nat){q:Nat×Nat}(h1:col q.1=true)(h2:col q.2=true){r:List Nat}(h:GdT r):GdT (mb p q++r):=by
 unfold mb
 split
 ·unfold mbA;rw[zB,zB];exact Qtr (PX _ h1 (P0 _ h2 h))
 ·unfold mbS;rw[zB];exact PX _ h1 (P0 _ h2 h)
theorem Qa{l:List L3}{g:List Nat}(h:LkT l g){ps:Tb}:∀(ms:List M3) (a:Nat) (n:Nd),a<=l.length+1->n∈nds l g a->Wy ps (lmv l g) (oE l) n ms->GdT (txt ms)
 | [],_,_,_,_,_=>λd hd=>(nomatch hd)
 |m::ms,a,n,ha,hn,⟨hf,hm,_,w⟩=>by
  have h1:=mW hn;have i:¬n.1=(l.length:Int)+1:=of_decide_eq_false hf;unfold lmv at hm;rw[if_neg i] at hm;obtain⟨b,c,rfl⟩:=zz.mp hm
  have j:n.1.toNat=a:=by omega
  rw[j] at c;obtain⟨t,r⟩:=PJ h c;have k:=Qa h ms (a+1) b (by omega) c w;rw[Gi];show GdT ((mb n.2 b.2++sg l n.1.toNat)++txt ms);rw[j,zB];refine QzI _ t r ?_
  by_cases q:a<l.length
  ·have ok:=h.lo _ (jp q)
   have f:sg l a=sgn l[a].1:=by unfold sg;rw[zx q]
   rw[f];exact Qu8 ok.1.1 k
  ·have f:sg l a=[]:=by unfold sg;rw[jg (by omega)]
   rw[f];exact k
theorem QtM{l:List L3}{i:List Nat}(h:LkT l i)(q:∀O,nZ [.lst (l.map dL),.int 1] O=.ok (.lst (i.map st)) O):∃T:List Nat,Okt T/\shF (kv T) [46] [46] []=some (l.map dL)/\GdT T/\∀O,∃d,ju [.lst (l.map dL)] O=.ok (.str T) d:=by
 have n:∀O:aq,∃d k c a,tE [.ob O.length] (O++[.ins "Leaps" (lfs l i)])=.ok (.tup [.int c,.lst (a.map λm=>.str m.name)]) d/\Pri (l.length+1) (nds l i) (lmv l i) (oE l) 0 k/\Wy k (lmv l i) (oE l) (0,(46,46)) a:=λO=>by
  have E:=h.ll;obtain⟨d,k,c,a,J,_,I,_,H⟩:=Qy4 (Gh O.length h.ll h.cl h.cn) (QwZ h) (by omega) (O:=O++[.ins "Leaps" (lfs l i)]) Ft;exact⟨d,k,c,a,J,I,H⟩
 obtain⟨_,L,_,f,_,r,j⟩:=n [];have h0:((0,(46,46)):Nd)∈nds l i 0:=(Gh 0 h.ll h.cl h.cn).f0;obtain⟨t1,t2,t⟩:=Gj h f 0 (0,(46,46)) [] (Nat.zero_le _) h0 j;have E:=h.ll
 have hlen:(txt f).length<=5000:=by omega
 refine⟨txt f,⟨hlen,λc q=>.inl (t c q)⟩,t1,Qa h f 0 (0,(46,46)) (Nat.zero_le _) h0 j,λO=>?_⟩;obtain⟨d,k,c,a,e,G,F⟩:=n O;obtain rfl:a=f:=PL (Gh 0 h.ll h.cl h.cn) r G f a 0 (0,(46,46)) (Nat.zero_le _) h0 j F;refine⟨d,?_⟩
 have B:jQ "Leaps" tG (aj (aa 0) au) [some (.lst (l.map dL)),none] O=.ok (.ob O.length) (O++[.ins "Leaps" (lfs l i)]):=by
  rw[Zo,ma1 (x:=.lst (l.map dL)) rfl,aV,QvE O q,Zq]
 have y:aJ tE (aj (jQ "Leaps" tG (aj (aa 0) au)) au) [some (.lst (l.map dL)),none] O=.ok (.tup [.int c,.lst (a.map λm=>.str m.name)]) d:=(qm (qj B)).trans e
 have C:rE (ak gIx (aa 1) (mC (.int 1))) [some (.lst (l.map dL)),some (.tup [.int c,.lst (a.map λm=>.str m.name)])] d=.ok (.str (txt a)) d:=by
  unfold rE;rw[show ak gIx (aa 1) (mC (.int 1)) [some (.lst (l.map dL)),some (.tup [.int c,.lst (a.map λm=>.str m.name)])] d=.ok (.lst (a.map λm=>.str m.name)) d from rfl,aV];dsimp only[nD];rw[PN];dsimp only;rw[if_pos (by rw[PP];omega)];rfl
 have u:Dw [.lst (l.map dL)] O=.ok (.tup [.int c,.str (txt a)]) d:=by
  show bA (vP [some (.lst (l.map dL)),none] O)=_;unfold vP;rw[sq (qy y)];show bA (aO _ [some (.lst (l.map dL)),some (.tup [.int c,.lst (a.map λm=>.str m.name)])] d)=_;rw[eG,qg (maS (x:=.int c) rfl (ma1 C)) (show(2:Nat)<=1000000 by decide)];rfl
 show bA (vQ [some (.lst (l.map dL))] O)=_;unfold vQ;rw[eG,MT (g:=gIx) (b:=mC (.int 1)) (z:=.str (txt a)) ((qm (qj (x:=.lst (l.map dL)) rfl)).trans u) rfl rfl];rfl
theorem Qzp{x:L3}(h1:x.1<1114112)(h2:x.2.1<1114112)(h3:x.2.2<1114112):gJ (dL x)=true/\(toP (dL x)).canLay0=true/\(toP (dL x)).depth<=5:=by
 refine⟨rfl,?_,Nat.le_of_ble_eq_true rfl⟩
 have q:∀c:Nat,c<1114112->(PyData.str (S [c])).canLay0=true:=λc b=>pH λx a=>by rw[zt.mp a];exact b
 show((PyData.str (S [x.1])).canLay0&&((PyData.str (S [x.2.1])).canLay0&&((PyData.str (S [x.2.2])).canLay0&&true)))=true;rw[q _ h1,q _ h2,q _ h3];rfl
theorem wQ{l:List L3}{g:List Nat}(h:LkT l g):okE (.lst (l.map dL))=true:=Zi (n:=5) (by decide) λd hd=>by
 obtain⟨x,f,rfl⟩:=zz.mp hd;have a:=(h.lo x f).1.2;have b:=(qC (h.li x f)).2;have c:=(qC (h.lg x f)).2;exact Qzp (by omega) (by omega) (by omega)
theorem Qv0{l:List L3}{a:List Nat}(h:LkT l a):gEq (.lst (l.map dL)) (.lst (l.map dL))=some (.bl true):=by
 rw[Zd,wQ h,Bool.and_self,if_pos rfl,yX (wQ h)]
theorem QvN{l:List L3}{a:List Nat}(h:LkT l a):gNe (.lst (l.map dL)) (.lst (l.map dL))=some (.bl false):=by
 rw[Zf,wQ h,Bool.and_self,if_pos rfl,yX (wQ h)];rfl
theorem Qtq{l:List L3}{j:List Nat}(h:LkT l j):∀d∈l.map dL,N7 d:=λd hd=>by
 obtain⟨x,f,rfl⟩:=zz.mp hd;have a:=(h.lo x f).1.2;have b:=(qC (h.li x f)).2;have c:=(qC (h.lg x f)).2
 have q:∀n:Nat,n<128->asc [n]:=λn i y g=>by rw[zt.mp g];exact i
 exact⟨[x.1],[x.2.1],[x.2.2],rfl,q _ (by omega),q _ (by omega),q _ (by omega)⟩
def Gk:MS:=(aX (cD (aB (ak gEq (aa 3) (mC (.str [115,105,103,110])))) (cD (aB (ak gEq (aa 4) (mC (.str [91])))) (aB (ak gNe (aa 5) (mC (.int 2)))))) (aO (mC (.bl false))) bc)
def gTr:MG:=(gG 3 (cX (mgN 3) (cX (mgN 4) (cX (mgN 5) iw))))
theorem Qc(a a1 a2:Option D)(O:aq):∀(ds:List D) (j i g:Option D),(∀d∈ds,Gd d)->∃f c b,bO gTr Gk ds [a,a1,a2,j,i,g] O=.nx [a,a1,a2,f,c,b] O
 | [],j,i,g,_=>⟨j,i,g,rfl⟩
 |d::ds,j,i,g,h=>by
  obtain⟨k,v,z,rfl,m⟩:=h d zg
  obtain⟨f,c,b,e⟩:=Qc a a1 a2 O ds (some (.str k)) (some (.str v)) (some (.int z)) λx q=>h x (zn _ q)
  refine⟨f,c,b,?_⟩;have t1:aB (ak gEq (aa 3) (mC (.str [115,105,103,110]))) [a,a1,a2,some (.str k),some (.str v),some (.int z)] O=.ok (decide (k=bF)) O:=qx rfl rfl;have t2:aB (ak gEq (aa 4) (mC (.str [91]))) [a,a1,a2,some (.str k),some (.str v),some (.int z)] O=.ok (decide (v=[91])) O:=qx rfl rfl;have l:aB (ak gNe (aa 5) (mC (.int 2))) [a,a1,a2,some (.str k),some (.str v),some (.int z)] O=.ok (!decide (z=2)) O:=fX (bD (x:=.int z) (y:=.int 2) rfl rfl (by rw[iT,iT,Ze]))
  have n:cD (aB (ak gEq (aa 3) (mC (.str [115,105,103,110])))) (cD (aB (ak gEq (aa 4) (mC (.str [91])))) (aB (ak gNe (aa 5) (mC (.int 2))))) [a,a1,a2,some (.str k),some (.str v),some (.int z)] O=.ok false O:=by
   by_cases h1:k=bF
   ·rw[zl h1] at t1
    by_cases h2:v=[91]
    ·rw[zl h2] at t2;rw[m h1 h2,zl rfl] at l;rw[m h1 h2] at t1 t2 ⊢;exact Fj t1 (Fj t2 l)
    ·rw[zd h2] at t2;exact Fj t1 (by rw[fQ,t2,aV,if_neg zf])
   ·rw[zd h1] at t1;rw[fQ,t1,aV,if_neg zf]
  rw[M4 (ρ1:=[a,a1,a2,some (.str k),some (.str v),some (.int z)]) rfl (show Gk [a,a1,a2,some (.str k),some (.str v),some (.int z)] O=.nx [a,a1,a2,some (.str k),some (.str v),some (.int z)] O from ifN n),e]
theorem Qvy{l:List L3}{i:List Nat}(h:LkT l i){T:List Nat}(d:Okt T)(hs:shF (kv T) [46] [46] []=some (l.map dL))(c:GdT T)(O:aq):oh [.str T,.lst (l.map dL)] O=.ok (.bl true) O:=by
 have n:=d.len;have f:=QqH T (by omega) O;have a:=Qo0 T.length T (by omega) O;have hs':shF (kvf T.length T) [46] [46] []=some (l.map dL):=hs;rw[hs'] at a;obtain⟨m,k,j,e⟩:=Qc (some (.str T)) (some (.lst (l.map dL))) (some (.lst (lrf T.length T))) O (lrf T.length T) none none none c;have b:aX (dw (bW (gk "str" (aa 0)))) (aO (mC (.bl false))) bc [some (.str T),some (.lst (l.map dL)),none,none,none,none] O=.nx [some (.str T),some (.lst (l.map dL)),none,none,none,none] O:=rfl;unfold Gk gTr at e;show bA (wj [some (.str T),some (.lst (l.map dL)),none,none,none,none] O)=_;unfold wj
 rw[sq b,sq (cG ((cF (ma1 (x:=.str T) rfl)).trans f))];show bA (aC _ _ [some (.str T),some (.lst (l.map dL)),some (.lst (lrf T.length T)),none,none,none] O)=_;rw[gm,jR,lK (l:=lrf T.length T) rfl,jT,e,lC,eG,bD (g:=gEq) (z:=.bl true) ((cF (ma1 (x:=.lst (lrf T.length T)) rfl)).trans a) (y:=.lst (l.map dL)) rfl (Qv0 h)];rfl
theorem Qd{l:List L3}{d:List Nat}(h:LkT l d)(i:∀O,nZ [.lst (l.map dL),.int 1] O=.ok (.lst (d.map st)) O):∃T:List Nat,(∀O,∃a,ju [.lst (l.map dL)] O=.ok (.str T) a)/\(∀O,oh [.str T,.lst (l.map dL)] O=.ok (.bl true) O)/\(∀O,∃a,jX [.str T] O=.ok (.lst (l.map dL)) a)/\(∀O,jZ [.lst (l.map dL),.lst (l.map dL)] O=.ok (.bl true) O):=by
 obtain⟨T,c,b,g,f⟩:=QtM h i;refine⟨T,f,λO=>Qvy h c b g O,λO=>?_,λO=>QxI _ (Qtq h) O⟩;obtain⟨a,e⟩:=Qq1 T c O;refine⟨a,?_⟩;have hs':shF (kvf T.length T) [46] [46] []=some (l.map dL):=b;rw[e,hs'];rfl
theorem Qe{l l':List L3}{d MG:List Nat}(h:Lk l d MG)(hs:∀x∈l',x∈l)(g:l'.length<=200):LkT l' (j4 (46::l'.map (·.2.1)))/\∀O,nZ [.lst (l'.map dL),.int 1] O=.ok (.lst ((j4 (46::l'.map (·.2.1))).map st)) O:=by
 have f:∀c∈46::l'.map (·.2.1),c∈d:=λc b=>by
  rcases zk.mp b with rfl | b
  ·exact h.i46
  ·obtain⟨x,a,rfl⟩:=zz.mp b;exact h.xi x (hs x a)
 have il:=h.il;refine⟨⟨by omega,λx a=>h.lo x (hs x a),zG (Qte f) (by omega),M7 _,λc b=>h.io c (f c ((Fq _ c).mp b)),λe=>?_,λx a=>h.io _ (h.xi x (hs x a)),λx a=>h.go _ (h.xg x (hs x a))⟩,λO=>Qyx l' 1 (·.2.1) (λ_=>.inl ⟨rfl,rfl⟩) (M:=d) (by omega) (by omega) h.i46 (λx a=>h.xi x (hs x a)) O⟩
 have:=(Fq (46::l'.map (·.2.1)) 46).mpr zg
 rw[e] at this;cases this
theorem Qs6(xs:List Int)(u:xs.length<=63):∃O',MN [.lst (xs.map D.int)] []=.ok (.bl true) O':=by
 obtain⟨l,MI,MG,J,G⟩:=QyG xs [];have ll:=J.ll;obtain⟨h,hc⟩:=Qe J (l':=l) (λx u=>u) ll;obtain⟨T,Z,rg,Y,E⟩:=Qd h hc;have H:=Ng xs 1
 generalize xs.getD 1 0=v at H
 have v0:=zS v (show((l.length:Int)+1)≠0 by omega);have v1:=zT v (show(0:Int)<(l.length:Int)+1 by omega);obtain⟨k,hk⟩:∃k:Nat,(k:Int)=v % ((l.length:Int)+1):=⟨(v % ((l.length:Int)+1)).toNat,by omega⟩;obtain⟨h2,W⟩:=Qe J (l':=l.take k) (λx u=>List.mem_of_mem_take u) (by rw[List.length_take];omega);obtain⟨T2,q,r,P,n⟩:=Qd h2 W;obtain⟨i,e1⟩:=Z [];obtain⟨f,e2⟩:=Y i;obtain⟨O3,e3⟩:=q f;obtain⟨O4,e4⟩:=q O3;obtain⟨C,e5⟩:=P O4;obtain⟨B,e6⟩:=Z C;obtain⟨I,e7⟩:=Y B;obtain⟨X,hX⟩:∃X,X=D.lst (xs.map D.int):=⟨_,rfl⟩
 obtain⟨L,m⟩:∃L,L=D.lst (l.map dL):=⟨_,rfl⟩;obtain⟨j,t⟩:∃L,L=D.lst ((l.take k).map dL):=⟨_,rfl⟩;have nl:=QvN h
 have dl:∀O,bK O L=L:=λO=>by rw[m];rfl
 rw[<-m] at G e1 rg e2 E e6 e7 nl;rw[<-t] at e3 r e4 e5 n;rw[<-hX] at G H;have s1:aJ tH (aj (aa 0) au) [some X,none,none,none,none,none] []=.ok L []:=(cF (ma1 rfl)).trans G
 have s2:∀O a2 a3 a4 a5,bx kZ (aj (aa 1) au) [some X,some L,a2,a3,a4,a5] O=.ok L O:=λO a2 a3 a4 a5=>by rw[m];exact Nb (d:=.lst (l.map dL)) rfl rfl
 have s3:aJ ju (aj (aa 2) au) [some X,some L,some L,none,none,none] []=.ok (.str T) i:=(cF (ma1 rfl)).trans e1;have s4:=ifN (a:=aO (mC (.bl false))) (Fi (fX (bD (g:=gNe) (a:=aa 2) (b:=aa 1) (ρ:=[some X,some L,some L,some (.str T),none,none]) (O:=i) (x:=L) (y:=L) (z:=.bl false) rfl rfl (by rw[dl];exact nl))) (wz ((cF (c:=oh) (maS (a:=aa 3) (x:=.str T) rfl (ma1 (a:=aa 1) (x:=L) rfl))).trans (rg i))))
 have s5:uD 2 [some X,some L,some L,some (.str T),none,none] i=.nx [some X,some L,some (.lst []),some (.str T),none,none] i:=by rw[m];rfl
 have s6:aJ jX (aj (aa 3) au) [some X,some L,some (.lst []),some (.str T),none,none] i=.ok L f:=(cF (ma1 rfl)).trans e2;have s7:=ifN (a:=aO (mC (.bl false))) (wz ((cF (c:=jZ) (maS (a:=aa 4) (ρ:=[some X,some L,some (.lst []),some (.str T),some L,none]) (O:=f) (x:=L) rfl (ma1 (a:=aa 1) (x:=L) rfl))).trans (E f)));obtain⟨F,hF⟩:∃F,F=D.lst (l.map dL++[.tup [.str [120],.str [46],.str [46]]]):=⟨_,rfl⟩
 have s8:cO 4 (bT (aj (mC (.str [120])) (aj (mC (.str [46])) (aj (mC (.str [46])) au)))) [some X,some L,some (.lst []),some (.str T),some L,none] f=.nx [some X,some L,some (.lst []),some (.str T),some F,none] f:=by
  rw[hF,m];exact tQ (ds:=l.map dL) (d:=.tup [.str [120],.str [46],.str [46]]) rfl rfl (by rw[ze];omega)
 have s9:mSl (aa 1) moN (moS (ak bL (aJ lJ (aj (aa 0) (aj (mC (.int 1)) au))) (ak aM (bx bY (aj (aa 1) au)) (mC (.int 1))))) [some X,some L,some (.lst []),some (.str T),some F,none] f=.ok j f:=by
  have hl:bx bY (aj (aa 1) au) [some X,some L,some (.lst []),some (.str T),some F,none] f=.ok (.int (l.length:Int)) f:=by
   rw[m,oA (l:=l.map dL) rfl,ze]
  have hb:ak bL (aJ lJ (aj (aa 0) (aj (mC (.int 1)) au))) (ak aM (bx bY (aj (aa 1) au)) (mC (.int 1))) [some X,some L,some (.lst []),some (.str T),some F,none] f=.ok (.int (k:Int)) f:=by
   rw[hk];exact fY ((cF (maS rfl (ma1 rfl))).trans (H f)) (mR hl rfl) (by omega)
  rw[yQ,show aa 1 [some X,some L,some (.lst []),some (.str T),some F,none] f=.ok L f from rfl,aV,Y0,aV,uV,hb,aV,J8,aV,m,nD,J9,Qxd,iR,t,List.map_take]
 have U:=ifN (a:=aO (mC (.bl false))) (Fi (wz ((qm (c:=oh) (wy (a:=aJ ju (aj (aa 5) au)) (ρ:=[some X,some L,some (.lst []),some (.str T),some F,some j]) (O:=f) ((cF (ma1 rfl)).trans e3) (qj (a:=aa 5) (x:=j) rfl))).trans (r O3))) (wz ((qm (c:=jZ) (wy (a:=aJ jX (aj (aJ ju (aj (aa 5) au)) au)) ((qm (qj ((cF (ma1 rfl)).trans e4))).trans e5) (qj (a:=aa 5) (x:=j) rfl))).trans (n C))))
 have R:ak gEq (aJ ju (aj (bx kZ (aj (aa 1) au)) au)) (aa 3) [some X,some L,some (.lst []),some (.str T),some F,some j] C=.ok (.bl true) B:=MT (x:=.str T) (y:=.str T) ((cF (ma1 (s2 C _ _ _ _))).trans e6) rfl (by
  rw[pC,yW,zl rfl])
 have Q:aJ jZ (aj (aJ jX (aj (aa 3) au)) (aj (aa 1) au)) [some X,some L,some (.lst []),some (.str T),some F,some j] B=.ok (.bl true) I:=(qm (wy ((cF (ma1 rfl)).trans e7) (qj (a:=aa 1) (x:=L) rfl))).trans (E I);refine⟨I,?_⟩;rw[<-hX];show bA (wk [some X,none,none,none,none,none] [])=_;unfold wk;rw[sq (cG s1)];show bA (aC _ _ [some X,some L,none,none,none,none] [])=_;rw[sq (cG (s2 [] none none none none))];show bA (aC _ _ [some X,some L,some L,none,none,none] [])=_;rw[sq (qy s3)];show bA (aC _ _ [some X,some L,some L,some (.str T),none,none] i)=_;rw[sq s4,sq s5,sq (qy s6)]
 show bA (aC _ _ [some X,some L,some (.lst []),some (.str T),some L,none] f)=_;rw[sq s7,sq s8,sq (cG s9)];show bA (aC _ _ [some X,some L,some (.lst []),some (.str T),some F,some j] f)=_;rw[sq U,eG,YT,R,aV];show bA (mH (aJ jZ (aj (aJ jX (aj (aa 3) au)) (aj (aa 1) au)) [some X,some L,some (.lst []),some (.str T),some F,some j] B))=_;rw[Q];rfl
theorem all_mk{l:PySem.W.OpenLaw}{w:World}{K:PySem.W.Frag}{h:Heap}{mg:Str->Option Value}{fa:Addr}(X:K.In h)(G:h.Ns mainGlobals mg)(hfa:mg "law" = some (.ref fa))
  {oF:Addr}
  {lL:Addr}
  {Gm:Addr}{Qx0 Qf:Option Addr}{Qyf:Array (Option Value)}{Qye Qg Qh Qi Gn Qj:Value}
  {ad_PLAIN:Addr}{Qk:Value}{QtP:Option Addr}{it_PLAIN:Array Value}{nn_PLAIN:Nat}{Qtp:Array (Option Value)}
  (Z_Reader:ClsAt K "Reader" oF)
  (Qnw:PySem.W.findIn K (.ref oF) "held" = some none)
  (Qmq:PySem.W.findIn K (.ref oF) "place" = some none)
  (Z_Leaps:ClsAt K "Leaps" lL)
  (Qn1:PySem.W.findIn K (.ref lL) "inks" = some none)
  (QnS:PySem.W.findIn K (.ref lL) "look" = some none)
  (Ad:Def K mg "is_sign" Ab)
  (Aj:Def K mg "is_colour" Ag)
  (Ao:Def K mg "checked" Al)
  (Av:Def K mg "shown_ink" Ar)
  (Ay:Def K mg "mark_of" Aw)
  (Ba:Def K mg "may_become_mark" Az)
  (Bd:Def K mg "own_item" Bb)
  (Bg:Def K mg "own_items" u6)
  (M_Reader___init__:MethAt K oF "__init__" "Reader.__init__" Bj)
  (M_Reader_take:MethAt K oF "take" "Reader.take" Bm)
  (M_Reader_feed:MethAt K oF "feed" "Reader.feed" Bs)
  (M_Reader_finish:MethAt K oF "finish" "Reader.finish" By)
  (BV:Def K mg "items_of" BL)
  (Cd:Def K mg "written" Ca)
  (Cg:Def K mg "pair_behind" Ce)
  (Ck:Def K mg "cost_over" Ci)
  (Cq:Def K mg "least_cost" sW)
  (M_Leaps_last_at:MethAt K lL "last_at" "Leaps.last_at" Cr)
  (M_Leaps_nodes_at:MethAt K lL "nodes_at" "Leaps.nodes_at" vp)
  (Cz:Def K mg "marks_to" Cy)
  (CK:Def K mg "marks_between" CG)
  (M_Leaps_moves_from:MethAt K lL "moves_from" "Leaps.moves_from" CN)
  (M_Leaps_is_end:MethAt K lL "is_end" "Leaps.is_end" CV)
  (Dd:Def K mg "price_nodes" Dc)
  (Dh:Def K mg "priced" De)
  (Dj:Def K mg "first_cheapest" vI)
  (M_Leaps_first_node:MethAt K lL "first_node" "Leaps.first_node" Dk)
  (Dn:Def K mg "way_of" Dm)
  (Dr:Def K mg "colours_of" vM)
  (M_Leaps___init__:MethAt K lL "__init__" "Leaps.__init__" Ds)
  (Dy:Def K mg "shaded_way" Dv)
  (DN:Def K mg "shaded" DK)
  (DR:Def K mg "unshaded" DQ)
  (Ec:Def K mg "_law_cell_at" Ea)
  (Ef:Def K mg "_law_mix" Ed)
  (Eg:Def K mg "_law_colours" vU)
  (Ei:Def K mg "_law_signs" Eh)
  (Ek:Def K mg "_law_look" Ej)
  (Eo:Def K mg "_law_is_colour" Em)
  (Es:Def K mg "_law_read" Ep)
  (Ew:Def K mg "_law_shown" Et)
  (Ez:Def K mg "_law_same_look" Ex)
  (Fb:Def K mg "_law_text_right" EY)
  (Gp:PySem.W.nsIn K mainGlobals "law" = some (some (.ref Gm))) (Ql:K.lookup Gm=some ⟨Qye,Qx0,.func (PySem.W.fnOf "law" "law" (gY j0) (eO j0) (aY j0) .none Qg Qh Qi Qf Gn Qj),Qyf⟩) (QxK:PySem.W.codeIn K Gn "law" = true) (Qzl:PySem.W.keepIn K (.ref Gm)=true)
  (B:b7 mg)
  (NK:bJ K=true)
  (lE:∃u,mg "ANEW_SIGN" = some u/\RelV (.str (S [9])) u)
  (Ak:∃u,mg "COLOURS" = some u/\RelV (.str (S [97,98,99,100,101,102,103,104,46])) u)
  (Ae:∃u,mg "FIRST_SIGN" = some u/\RelV (.str (S [32])) u)
  (Af:∃u,mg "LAST_SIGN" = some u/\RelV (.str (S [125])) u)
  (Qsk:PySem.W.nsIn K mainGlobals "PLAIN" = some (some (.ref ad_PLAIN))) (Qrd:K.lookup ad_PLAIN=some ⟨Qk,QtP,.seq it_PLAIN nn_PLAIN,Qtp⟩) (t_c_PLAIN:Qk=.type "tuple") (Qrt:it_PLAIN.size<=sizeLine) (v_c_PLAIN:aW (List.map (λl=>V.str (S l)) [[46],[46]]) it_PLAIN.toList)
  (lF:∃u,mg "ROW_END" = some u/\RelV (.str (S [10])) u):
  ∃fd:FuncData,(∀(s:Shared) (v:Value),BindsTo s fd ⟨[v],[]⟩ [("_law_script",v)])/\∀base:Heap,K.In base->base.Ns mainGlobals mg->dq l.prog w K mg base CX0 10 fa fd ["_law_script"] (sp_law K):=by
 have e:=hfa.symm.trans (PySem.W.mg_of X G Gp);cases e;have fH:=Z_Reader.kf X G Qnw;have iY:=Z_Reader.kf X G Qmq;have pQ:=Z_Leaps.kf X G Qn1;have gR:=Z_Leaps.kf X G QnS;have Bl:=Z_Reader.dc X G M_Reader___init__;have Bp:=Z_Reader.dm X G M_Reader_take;have Bv:=Z_Reader.dm X G M_Reader_feed;have BK:=Z_Reader.dm X G M_Reader_finish;have Cu:=Z_Leaps.dm X G M_Leaps_last_at;have Cw:=Z_Leaps.dm X G M_Leaps_nodes_at;have CQ:=Z_Leaps.dm X G M_Leaps_moves_from;have CZ:=Z_Leaps.dm X G M_Leaps_is_end;have Dl:=Z_Leaps.dm X G M_Leaps_first_node;have Dt:=Z_Leaps.dc X G M_Leaps___init__;have Ff:Def K mg "law" j0:=⟨_,_,PySem.W.mg_of X G Gp,xE (st:=j0) Ql QxK Qzl⟩
 have dZ:mq K mg "PLAIN" [[46],[46]]:=⟨ad_PLAIN,_,it_PLAIN,nn_PLAIN,PySem.W.mg_of X G Qsk,Qrd,t_c_PLAIN,rfl,Qrt,v_c_PLAIN⟩;refine⟨PySem.W.fnOf "law" "law" (gY j0) (eO j0) (aY j0) .none Qg Qh Qi Qf Gn Qj,λs v=>.of_eq rfl,λbase _ _=>?_⟩;have Aq:=@Zz l.prog w K mg base Ad B NK Ae Af;have mK:=@ZD l.prog w K mg base Aj B NK Ak;have Bw:=@ZF l.prog w K mg base Ao B NK lE lF Aq;have DX:=@ZJ l.prog w K mg base Av B NK;have Br:=@ZL l.prog w K mg base Ay B NK mK;have Bq:=@ZP l.prog w K mg base Ba B NK mK;have Bh:=@ZR l.prog w K mg base Bd B NK lE lF
 have nU:=@ZW l.prog w K mg base Bg B NK Bh;have BW:=@ZZ l.prog w K mg base Bl B NK fH iY;have Bx:=@Z0 l.prog w K mg base Bp B NK iY fH Bq Br nU;have BX:=@Z1 l.prog w K mg base Bv B NK Bw Bx;have BZ:=@Z2 l.prog w K mg base BK B NK fH iY nU;have DW:=@Z3 l.prog w K mg base BV B NK BW BX BZ;have lH:=@Z5 l.prog w K mg base Cd B NK lE lF;have DY:=@Z7 l.prog w K mg base Cg B NK dZ;have pP:=@Z8 l.prog w K mg base Ck B NK;have p6:=@Z9 l.prog w K mg base Cq B NK pP;have iD:=@Qla l.prog w K mg base Cu B NK gR;have pX:=@QkE l.prog w K mg base Cw B NK dZ gR pQ iD
 have pU:=@Qo1 l.prog w K mg base Cz B NK lH;have CT:=@Qlw l.prog w K mg base CK B NK dZ pU lH;have pY:=@Qjm l.prog w K mg base CQ B NK gR iD lH pX CT;have pZ:=@QlR l.prog w K mg base CZ B NK iD;have Di:=@Qmo l.prog w K mg base Dd B NK pX pY pZ p6;have Do:=@QrI l.prog w K mg base Dh B NK iD Di;have Dq:=@QkH l.prog w K mg base Dj B NK p6 pP;have Dp:=@Qjn l.prog w K mg base Dl B NK dZ;have Dz:=@Qr8 l.prog w K mg base Dn B NK Do Dp pZ Dq pY;have Du:=@Qnr l.prog w K mg base Dr B NK dZ;have DG:=@QkG l.prog w K mg base Dt B NK gR pQ Du;have DP:=@Qny l.prog w K mg base Dy B NK Dz DG
 have qe:=@Qrb l.prog w K mg base DN B NK DP;have tL:=@Qo8 l.prog w K mg base DR B NK dZ DW DX DY;have qb:=@Qmp l.prog w K mg base Ec B NK;have jY:=@QqP l.prog w K mg base Ef B NK;have vY:=@QmM l.prog w K mg base Eg B NK;have El:=@Qn3 l.prog w K mg base Ei B NK;have Fg:=@Qpa l.prog w K mg base Ek B NK qb vY jY El;have v8:=@Qk3 l.prog w K mg base Eo B NK;have Fd:=@Qo4 l.prog w K mg base Es B NK v8;have Fe:=@QoA l.prog w K mg base Ew B NK;have tO:=@Qk2 l.prog w K mg base Ez B NK;have wu:=@QkD l.prog w K mg base Fb B NK Fd Fe;have QyK:=@QwE l.prog w K mg base Ff B NK Fg qe wu tL tO qb
 obtain⟨f',fd',hm',hk',hb',F',oc',od',osl',lk'⟩:=QyK;have e2:=(PySem.W.mg_of X G Gp).symm.trans hm';cases e2;have e3:=Ql.symm.trans lk';cases e3;exact F'.imp (W6 Qs6)
theorem walk{l:PySem.W.OpenLaw}{q:Program}{loose:List Str}{XP:(Str->Option Value)->Heap->Prop}{YP:World->Heap->Prop}{d:DefRec}{K:Params->PySem.W.Frag}(hn:l.most=some 63)(hdf:d.params.defaults=[])
  (hY:∀(w:World) (h:Heap),YP w h->(K w.params).In h)
  (F:∀(w:World) (mg:Str->Option Value) (fa:Addr) (h:Heap),(K w.params).In h->h.Ns mainGlobals mg->mg d.name=some (.ref fa) ->
   ∃fd:FuncData,(∀(s:Shared) (u:Value),BindsTo s fd ⟨[u],[]⟩ [("_law_script",u)])/\∀base:Heap,(K w.params).In base->base.Ns mainGlobals mg->dq l.prog w (K w.params) mg base CX0 10 fa fd ["_law_script"] (sp_law (K w.params))):
  PySem.W.WalkO q loose XP YP l.row.toRowW d [] (λf vs=>PySem.call f vs):=
 L2.walk_ofR (n:=63) (k:=10) (x:="_law_script") (CX:=λ_=>CX0) (sp:=λw=>sp_law (K w.params)) hn (by decide) hdf ⟨rfl,by decide,by decide⟩ hY F (λ_ _ a ns hl ho hS=>⟨a,ns,rfl,hS,hl,ho,λ_=>rfl⟩) λ_ _ _ _ _ z=>z
end K34
open PySem PySem.W PyProof.Rows L2
set_option maxRecDepth 100000 in
set_option maxHeartbeats 0 in
theorem PySem.Challenge.cw_outweave_k34_shaded_and_back_holds : PySem.Challenge.rw_outweave_k34_shaded_and_back.Holds := by
 w_on;o_law;k_head;(case hw=>w_witness2)
 k_fill
 refine K34.walk (l:=PySem.Challenge.rw_outweave_k34_shaded_and_back) rfl rfl (λw h Y=>PySem.W.kIn_of Y) ?F
 case F =>
  intro w mg fa h KX G hmg
  refine' K34.all_mk KX G hmg ⟨?x1,?x2,?x3,?x4,?x5,?x6,?x7⟩ ?x8 ?x9 ⟨?x10,?x11,?x12,?x13,?x14,?x15,?x16⟩ ?x17 ?x18 (mkD KX G ?x19 ?x20 ?x21 ?x22) (mkD KX G ?x23 ?x24 ?x25 ?x26) (mkD KX G ?x27 ?x28 ?x29 ?x30) (mkD KX G ?x31 ?x32 ?x33 ?x34) (mkD KX G ?x35 ?x36 ?x37 ?x38) (mkD KX G ?x39 ?x40 ?x41 ?x42) (mkD KX G ?x43 ?x44 ?x45 ?x46) (mkD KX G ?x47 ?x48 ?x49 ?x50) (mkM ?x51 ?x52 ?x53 ?x54 ?x55) (mkM ?x56 ?x57 ?x58 ?x59 ?x60) (mkM ?x61 ?x62 ?x63 ?x64 ?x65) (mkM ?x66 ?x67 ?x68 ?x69 ?x70) (mkD KX G ?x71 ?x72 ?x73 ?x74) (mkD KX G ?x75 ?x76 ?x77 ?x78) (mkD KX G ?x79 ?x80 ?x81 ?x82) (mkD KX G ?x83 ?x84 ?x85 ?x86) (mkD KX G ?x87 ?x88 ?x89 ?x90) (mkM ?x91 ?x92 ?x93 ?x94 ?x95) (mkM ?x96 ?x97 ?x98 ?x99 ?x100) (mkD KX G ?x101 ?x102 ?x103 ?x104) (mkD KX G ?x105 ?x106 ?x107 ?x108) (mkM ?x109 ?x110 ?x111 ?x112 ?x113) (mkM ?x114 ?x115 ?x116 ?x117 ?x118) (mkD KX G ?x119 ?x120 ?x121 ?x122) (mkD KX G ?x123 ?x124 ?x125 ?x126) (mkD KX G ?x127 ?x128 ?x129 ?x130) (mkM ?x131 ?x132 ?x133 ?x134 ?x135) (mkD KX G ?x136 ?x137 ?x138 ?x139) (mkD KX G ?x140 ?x141 ?x142 ?x143) (mkM ?x144 ?x145 ?x146 ?x147 ?x148) (mkD KX G ?x149 ?x150 ?x151 ?x152) (mkD KX G ?x153 ?x154 ?x155 ?x156) (mkD KX G ?x157 ?x158 ?x159 ?x160) (mkD KX G ?x161 ?x162 ?x163 ?x164) (mkD KX G ?x165 ?x166 ?x167 ?x168) (mkD KX G ?x169 ?x170 ?x171 ?x172) (mkD KX G ?x173 ?x174 ?x175 ?x176) (mkD KX G ?x177 ?x178 ?x179 ?x180) (mkD KX G ?x181 ?x182 ?x183 ?x184) (mkD KX G ?x185 ?x186 ?x187 ?x188) (mkD KX G ?x189 ?x190 ?x191 ?x192) (mkD KX G ?x193 ?x194 ?x195 ?x196) (mkD KX G ?x197 ?x198 ?x199 ?x200) ?x201 ?x202 ?x203 ?x204 ⟨⟨⟨PySem.W.mg_none_of KX G ?x205,PySem.W.mg_none_of KX G ?x206,PySem.W.mg_none_of KX G ?x207,PySem.W.mg_none_of KX G ?x208,PySem.W.mg_none_of KX G ?x209,PySem.W.mg_none_of KX G ?x210,PySem.W.mg_none_of KX G ?x211,PySem.W.mg_none_of KX G ?x212,PySem.W.mg_none_of KX G ?x213,PySem.W.mg_none_of KX G ?x214,PySem.W.mg_none_of KX G ?x215,PySem.W.mg_none_of KX G ?x216,PySem.W.mg_none_of KX G ?x217,PySem.W.mg_none_of KX G ?x218,PySem.W.mg_none_of KX G ?x219⟩,PySem.W.mg_none_of KX G ?x220⟩,PySem.W.mg_none_of KX G ?x221⟩ ?x222 ⟨_,PySem.W.mg_of KX G ?x223,?x224⟩ ⟨_,PySem.W.mg_of KX G ?x225,?x226⟩ ⟨_,PySem.W.mg_of KX G ?x227,?x228⟩ ⟨_,PySem.W.mg_of KX G ?x229,?x230⟩ ?x231 ?x232 ?x233 ?x234 ?x235 ⟨_,PySem.W.mg_of KX G ?x236,?x237⟩
  (case x1 | x2 | x3 | x4 | x5 | x6 | x7 | x8 | x9 | x10 | x11 | x12 | x13 | x14 | x15 | x16 | x17 | x18 | x19 | x20 | x21 | x22 | x23 | x24 | x25 | x26 | x27 | x28 | x29 | x30 | x31 | x32 | x33 | x34 | x35 | x36 | x37 | x38 | x39 | x40 | x41 | x42 | x43 | x44 | x45 | x46 | x47 | x48 | x49 | x50 | x51 | x52 | x53 | x54 | x55 | x56 | x57 | x58 | x59 | x60 | x61 | x62 | x63 | x64 | x65 | x66 | x67 | x68 | x69 | x70 | x71 | x72 | x73 | x74 | x75 | x76 | x77 | x78 | x79 | x80 | x81 | x82 | x83 | x84 | x85 | x86 | x87 | x88 | x89 | x90 | x91 | x92 | x93 | x94 | x95 | x96 | x97 | x98 | x99 | x100 | x101 | x102 | x103 | x104 | x105 | x106 | x107 | x108 | x109 | x110 | x111 | x112 | x113 | x114 | x115 | x116 | x117 | x118 | x119 | x120 | x121 | x122 | x123 | x124 | x125 | x126 | x127 | x128 | x129 | x130 | x131 | x132 | x133 | x134 | x135 | x136 | x137 | x138 | x139 | x140 | x141 | x142 | x143 | x144 | x145 | x146 | x147 | x148 | x149 | x150 | x151 | x152 | x153 | x154 | x155 | x156 | x157 | x158 | x159 | x160 | x161 | x162 | x163 | x164 | x165 | x166 | x167 | x168 | x169 | x170 | x171 | x172 | x173 | x174 | x175 | x176 | x177 | x178 | x179 | x180 | x181 | x182 | x183 | x184 | x185 | x186 | x187 | x188 | x189 | x190 | x191 | x192 | x193 | x194 | x195 | x196 | x197 | x198 | x199 | x200 | x201 | x202 | x203 | x204 | x205 | x206 | x207 | x208 | x209 | x210 | x211 | x212 | x213 | x214 | x215 | x216 | x217 | x218 | x219 | x220 | x221 | x223 | x225 | x227 | x229 | x231 | x232 | x236=>k_is)
  (case x222=>first | kernel_rfl | decide +kernel)
  (case x224 | x226 | x228 | x230 | x237=>exact⟨_,rfl⟩)
  (case x233=>rfl)
  (case x234=>decide +kernel)
  (case x235=>repeat (first | exact .nil | refine .cons ⟨_,rfl⟩ ?_))
