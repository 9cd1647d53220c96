import Derived.Test.YtkjahdegnkmejaaGreatP45
import Derived.Test.YtkjahdegnkmejaaGreatP14
import Derived.Test.YtkjahdegnkmejaaGreatP18
namespace Go.Proofs.Z
variable{Zp:Prop}
open Tryz Go.RowKit Flt
set_option maxRecDepth 1000000
set_option maxHeartbeats 0
section
attribute[local go_sem] eE eC eB
variable{ins:List Int}{af:List Ste}{ba:List Spn}{n k i q:Nat}{ay:Int}{s:Ste}
theorem Mg(w s):
  Calls prog 49 #[s.agg] w λe O=>e=.returned (gM s).agg/\Kept 0 0 w O:=by
 go_enter func49,ntmps49;go_wp2;refine yaz (v:=(gM s).agg) (by simp[results,results49,go_sem,gM]) rfl ⟨rfl,?_⟩;exact(eA 0 0 w _).trans (eA 0 0 _ _)
abbrev rB(s:Ste):Value:=.agg #[.int .i64 s.dst,.int .i64 s.len,.int .i64 s.a]
abbrev zT(s:Ste)(G n:Nat):Value:=.agg #[.int .i64 s.dst,.int .i64 s.len,.int .i64 s.op,.int .i64 s.len,.int .i64 s.a,.int .i64 s.b,.int .i64 s.c,.float .f64 s.k,.slice (some ⟨G,0,none⟩) n 3]
theorem DS(w s)(h:s.op=0):
  Calls prog 29 #[s.agg] w λe O=>e=.returned (.iface 97 (rB s))/\Kept 0 0 w O:=by
 have t:=beq_iff_eq.2 h;go_enter func29,ntmps29;go_wp2;go_ret;exact⟨rfl,(eA 0 0 w _).trans (eA 0 0 _ _)⟩
structure SB(w:World)(G n:Nat)(ps:List Spn):Prop where
 lt:G<w.heap.size
 at_:∀k,k<n->AtP w G (k*2) (ps.getD k Spn.zero)
theorem SB.keep{w O G l h ps}(f:SB w G n ps)(k:Kept l h w O)(aN:G<l\/h<=G\/h<=l):SB O G n ps:=
 ⟨yak f.lt k.size,λi hi=>(f.at_ i hi).keep f.lt k aN⟩
abbrev B4(s:Ste):Obj:=.cells #[.int .i64 s.a,.int .i64 s.n,.int .i64 s.b,.int .i64 s.len,.int .i64 s.c,.int .i64 s.len] 56
theorem Hm(w:World)(s):SB (w.alloc (B4 s)) w.heap.size (cnt s.op) (fg s):=by
 refine⟨by simp,λk J=>?_⟩;have ai:=io s.op
 have e:(fg s).getD k Spn.zero=[⟨s.a,s.n⟩,⟨s.b,s.len⟩,⟨s.c,s.len⟩].getD k Spn.zero:=by
  unfold fg;rw[yai,List.getElem?_take_of_lt J,<-yai]
 rw[e];rcases (by omega:k=0\/k=1\/k=2) with rfl|rfl|rfl
 all_goals
  refine⟨?_,?_⟩
  all_goals first|(go_simp;done)|(simp;done)
theorem Hn(w s)(h:s.op≠0):
  Calls prog 29 #[s.agg] w λe O=>∃G,e=.returned (.iface 99 (zT s G (cnt s.op)))/\SB O G (cnt s.op) (fg s)/\w.heap.size<=G/\Kept 0 0 w O:=by
 have t:=yan h;have ai:=io s.op;have B:(w.alloc s.box).heap.size=w.heap.size+1:=by simp
 have N:((w.alloc s.box).alloc (Spn.mk s.dst s.len).box).heap.size=w.heap.size+1+1:=by simp
 have bj:=(eA 0 0 (w.alloc s.box) (Spn.mk s.dst s.len).box).trans (eA 0 0 _ (B4 s));have HK:V _:=(eA 0 0 w s.box).trans bj;have ao:V _:=(qE w s).keep xac bj yaa;have hP:=(lH (w.alloc s.box) (Spn.mk s.dst s.len)).keep xac (eA 0 0 _ (B4 s)) yaa;rw[B]at hP;have b1:V _:=hP;have a5:=Hm ((w.alloc s.box).alloc (Spn.mk s.dst s.len).box) s;rw[N]at a5;have aG:V _:=a5;have bi:V _:=λw=>vX s.op w;have b2:V _:=λw=>Mg w s;clear bj B N hP a5;go_enter func29,ntmps29;go_wp2_with fail;have ca:(0:Int)<=((cnt s.op:Nat):Int):=xaa;have ct:((cnt s.op:Nat):Int)<=(3:Int):=xaa;obtain⟨bT,aX,bk,ab,r,l,bV,X⟩:=ao.o;obtain⟨aU,ax⟩:=b1.o;simp only[Nat.zero_add]at aX bk ab r l bV X ax;have b9:V _:=aG.o.lt;generalize ((w.alloc s.box).alloc (Spn.mk s.dst s.len).box).alloc (B4 s)=aK at HK ao b1 aG b9 bT aX bk ab r l bV X aU ax⊢
 go_region_held3 (λO=>O.cell? ⟨w.heap.size,0,none⟩=some (ih s.op)/\O.cell? ⟨w.heap.size,1,none⟩=some (ih s.len)/\O.cell? ⟨w.heap.size,2,none⟩=some (ih s.n)/\O.cell? ⟨w.heap.size,3,none⟩=some (ih s.dst)/\O.cell? ⟨w.heap.size,4,none⟩=some (ih s.a)/\O.cell? ⟨w.heap.size,5,none⟩=some (ih s.b)/\O.cell? ⟨w.heap.size,6,none⟩=some (ih s.c)/\O.cell? ⟨w.heap.size,7,none⟩=some (.float .f64 s.k)/\O.cell? ⟨w.heap.size+1,0,none⟩=some (ih s.dst)/\O.cell? ⟨w.heap.size+1,1,none⟩=some (ih s.len)) (go_keep)
  (first
   |(go_at_call 51;refine yaj (bi.o _) ?_;rintro e aM ⟨rfl,rfl⟩)
   |(go_at_call 49;refine yaj (b2.o _) ?_;rintro e ak ⟨rfl,aC⟩;have d:=Kept.trans (eJ 0 0 aK 1) aC;obtain⟨bB,ad,be,ah,e4,cl,aQ,b⟩:=AtT.keep ao.o (i4 b9.o) d yaa;obtain⟨bo,ar⟩:=AtP.keep b1.o (i4 b9.o) d yaa;simp only[Nat.zero_add]at ad be ah e4 cl aQ b ar))
 all_goals
  go_wp2
  go_ret
  exact⟨w.heap.size+1+1,rfl,aG.o.keep d yaa,by omega,Kept.trans HK.o d⟩
theorem written(w)(p:Spn):
  Calls prog 147 #[p.agg] w λe O=>e=.returned p.agg/\Kept 0 0 w O:=by
 go_enter func147,ntmps147;go_wp2;refine yaz (v:=p.agg) (by simp[results,results147,go_sem]) rfl ⟨rfl,?_⟩;exact(eA 0 0 w _).trans (eA 0 0 _ _)
theorem Ho(w s):
  Calls prog 149 #[rB s] w λe O=>e=.returned (.slice none 0 0)/\Kept 0 0 w O:=by
 go_enter func149,ntmps149;go_wp2;go_ret;exact⟨rfl,eA 0 0 w _⟩
theorem KT(w s G n):
  Calls prog 151 #[zT s G n] w λe O=>e=.returned (ia G n 3)/\Kept 0 0 w O:=by
 go_enter func151,ntmps151;go_wp2;go_ret;exact⟨rfl,eA 0 0 w _⟩
def i6(ss:List Ste)(i:Nat)(s:Ste)(x:Int)(k:Nat):Bool:=f8 ss i (k:Nat)||decide (s.dst<=(k:Int)/\(k:Int)<x)
theorem rC(af i s k):f8 af i (k:Nat)=i6 af i s s.dst k:=by
 unfold i6;rw[yay xaa,Bool.or_false]
theorem ue(af i s)(x k:Nat)(h:s.dst<=(x:Int)):(if k=x then true else i6 af i s (x:Int) k)=i6 af i s ((x:Int)+1) k:=by
 unfold i6;by_cases e:k=x
 ·rw[iv e,decide_eq_true xaa,Bool.or_true]
 rw[ip e];congr 1;rw[Bool.eq_iff_iff];simp only[decide_eq_true_eq];omega
def nj(ss:List Ste)(i:Nat)(n:Nat)(s:Ste):Bool:=ke s.dst s.len n&&(fg s).all (jF ss i n s)
theorem DT{an len}(h:iX af n ay an len=true):0<=an/\an<=ay-len:=by
 exact xjh
theorem KU(am:q<cnt s.op)(h:jF af i n s ((fg s).getD q Spn.zero)=false):nj af i n s=false:=by
 unfold nj;have l:q<(fg s).length:=by rw[mN];exact am
 have:(fg s).all (jF af i n s)=false:=by
  rw[List.all_eq_false];rw[yai,yam l]at h;exact⟨(fg s)[q],List.getElem_mem _,by simpa using h⟩
 rw[this,Bool.and_false]
theorem Hp(am:q<cnt s.op)(bl:((fg s).take q).all (jF af i n s)=true)(h:jF af i n s ((fg s).getD q Spn.zero)=true):((fg s).take (q+1)).all (jF af i n s)=true:=by
 have l:q<(fg s).length:=by rw[mN];exact am
 rw[yau l,List.all_append,bl];rw[yai,yam l]at h;simpa using h
theorem aE.qay(h:Zp:=by
 simp only;cases J:ke s.dst s.len n
 ·exact xet
 have S:=of_decide_eq_true J;obtain⟨aU,ax⟩:=ao.o;rw[Nat.zero_add]at ax;go_wp2_with (first|(go_at_call 149;refine(Ho _ s).mono ?_;rintro e bx ⟨rfl,bS⟩)|fail);replace HK:V _:=Kept.trans HK.o bS;replace ao:V _:=AtP.keep ao.o hP bS yaa;replace hP:=yak hP bS.size;clear bS aU ax;refine wp_loop_rounds 1 ?_;rw[rounds_succ]
 have H:V (nj af i n s=true):=by
  show _=_;unfold nj fg;rw[J,aj];rfl
 have X:=hP;obtain⟨aU,ax⟩:=ao.o;rw[Nat.zero_add]at ax;have Y:V _:=BL.keep aO.o HK.o yaa;have av:V _:=HK;have r:V _:=ao;clear HK ao aO;exact xaj):Zp:=h
open aE in
theorem DU(w g n cap af i s)(hn:n<=50000)(_hcap:n<=cap)(f:BL w g n (λk=>f8 af i (k:Nat)))(cp:1<=s.len)(cw:s.len<=1000)(K:∀q,q<cnt s.op->1<=((fg s).getD q Spn.zero).len/\((fg s).getD q Spn.zero).len<=1000)(aj:s.op=0):
  Calls prog 28 #[ia g n cap,.iface 97 (rB s)] w λe O=>e=.returned (.bool (nj af i n s))/\Kept g (g+1) w O/\(nj af i n s=true->BL O g n (i6 af i s (s.dst+s.len))):=by
 have aH:∀w:World,(method 299 97 (rB s) "loop.example/s08086/impl.written").run prog w=.ok (147,(Spn.mk s.dst s.len).agg) w:=λ_=>by kernel_rfl
 have ce:∀w:World,(method 299 97 (rB s) "loop.example/s08086/impl.taken").run prog w=.ok (149,(rB s)) w:=λ_=>by kernel_rfl
 have aO:V _:=f;have d4:V _:=K;have bD:V _:=f.lt;clear f K;exact qax
theorem aF.qay(h:Zp:=by
 simp only;cases J:ke s.dst s.len n
 ·exact xet
 have S:=of_decide_eq_true J;obtain⟨aU,ax⟩:=ao.o;rw[Nat.zero_add]at ax;go_wp2_with (first|(go_at_call 151;refine(KT _ s G (cnt s.op)).mono ?_;rintro e bx ⟨rfl,bS⟩)|fail);replace HK:V _:=Kept.trans HK.o bS;replace ao:V _:=AtP.keep ao.o hP bS yaa;replace hP:=yak hP bS.size;clear bS aU ax;go_loopw [19] (λx W=>∃q:Nat,q<=cnt s.op/\x=ih q/\V (((fg s).take q).all (jF af i n s)=true)/\V (Kept 0 0 bx W)) (λx _=>cnt s.op-(intOf x).toNat)
 case atStart=>exact⟨0,yae,rfl,rfl,Kept.refl _ _ _⟩
 case round=>
  obtain⟨q,am,rfl,aj,ai⟩:=hrel;have ar:V _:=Kept.trans HK.o ai.o;have bL:V _:=AtP.keep ao.o hP ai.o yaa;by_cases B:q<cnt s.op
  ·have bf:=(aG.o.keep ar.o yaa).at_ q B;have d8:=d4.o q B;have U:V (jF af i n s ((fg s).getD q Spn.zero)=false->_):=λh=>KU B h;have di:V _:=λh=>Hp B aj.o h;generalize (fg s).getD q Spn.zero=p at bf d8 U di;obtain⟨bT,aX⟩:=bf;have bj:=eA 0 0 wr p.box;have Z:V _:=lH wr p;have aB:wr.heap.size<(wr.alloc p.box).heap.size:=by simp
   have aZ:=io s.op;have X:=yak hP ai.o.size;go_wp2_with fail;clear bT aX;have aa:V _:=Kept.trans ar.o bj;have t:V _:=AtP.keep bL.o X bj yaa;have aA:V _:=Kept.trans ai.o bj;generalize Q:wr.heap.size=P2 at Z aB X⊢;generalize wr.alloc p.box=bz at Z aB aa t aA bj⊢;clear Q bj ar bL ai;refine yaj (Py bz g n cap af i hn y (BL.keep aO.o aa.o yaa) p d8.1 d8.2) ?_;rintro e ch ⟨rfl,b6⟩;have aw:V _:=Kept.trans aa.o b6;have an:V _:=AtP.keep t.o xaa b6 yaa;have aI:V _:=AtP.keep Z.o aB b6 yaa;have R:V _:=Kept.trans aA.o b6;clear b6 aa t Z aA;simp only;cases F:iX af i n p.off p.len
   ·have H:V _:=U.o (by unfold jF;rw[F];rfl);have R2:V _:=(aw.o.mono (lo':=g) (hi':=g+1) λb _ c=>by omega)
    exact xei
   have aC:=DT F;obtain⟨bC,bH⟩:=an.o;obtain⟨a8,aJ⟩:=aI.o;rw[Nat.zero_add]at bH aJ;have az:V _:=Pz ch (Spn.mk s.dst s.len) p (by show -1000000<=s.dst+s.len/\s.dst+s.len<=1000000;omega) xaa;have eS:jF af i n s p=!decide (s.dst<p.off+p.len/\p.off<s.dst+s.len):=by unfold jF G3;rw[F];rfl
   rw[eS]at U di;simp only at az;go_wp2_with fail;refine yaj az.o ?_;rintro e ci ⟨rfl,b7⟩;have aL:V _:=Kept.trans aw.o b7;have al:V _:=Kept.trans R.o b7;clear b7 aw R an aI bC bH a8 aJ az eS F;simp only;cases bq:decide (s.dst<p.off+p.len/\p.off<s.dst+s.len)
   ·have H:V _:=di.o (jL bq);go_wp2;go_roundw;exact⟨q+1,by omega,by go_num,H,al⟩;simp[intOf];omega
   have H:V _:=U.o (jL bq);have R2:V _:=(aL.o.mono (lo':=g) (hi':=g+1) λb _ c=>by omega)
   exact xei
  have H:V (nj af i n s=true):=by
   show _=_;have:=aj.o;rw[yap (by rw[mN];omega)]at this;unfold nj;rw[J,this];rfl
  have X:=yak hP ai.o.size;obtain⟨aU,ax⟩:=bL.o;rw[Nat.zero_add]at ax;have Y:V _:=BL.keep aO.o ar.o yaa;have av:V _:=ar;have r:V _:=bL;clear aj ai bL ar HK ao aO;exact xaj):Zp:=h
open aF in
theorem Hq(w g n cap af i s)(hn:n<=50000)(y:n<=cap)(f:BL w g n (λk=>f8 af i (k:Nat)))(cp:1<=s.len)(cw:s.len<=1000)(K:∀q,q<cnt s.op->1<=((fg s).getD q Spn.zero).len/\((fg s).getD q Spn.zero).len<=1000)(G)(a5:SB w G (cnt s.op) (fg s))(_hG:G≠g):
  Calls prog 28 #[ia g n cap,.iface 99 (zT s G (cnt s.op))] w λe O=>e=.returned (.bool (nj af i n s))/\Kept g (g+1) w O/\(nj af i n s=true->BL O g n (i6 af i s (s.dst+s.len))):=by
 have aH:∀w:World,(method 299 99 (zT s G (cnt s.op)) "loop.example/s08086/impl.written").run prog w=.ok (147,(Spn.mk s.dst s.len).agg) w:=λ_=>by kernel_rfl
 have ce:∀w:World,(method 299 99 (zT s G (cnt s.op)) "loop.example/s08086/impl.taken").run prog w=.ok (151,(zT s G (cnt s.op))) w:=λ_=>by kernel_rfl
 have aO:V _:=f;have d4:V _:=K;have aG:V _:=a5;have bD:V _:=f.lt;clear f K a5;exact qax
theorem bW.qce(h:Zp:=by
 have HK:V _:=aS;clear f aS;by_cases ca:Y<=20
 ·have R:decide ((20:Int)<(Y:Int))=false:=yay xaa;by_cases a2:ae<=2000
  ·have a6:decide ((2000:Int)<(ae:Int))=false:=yay xaa;by_cases aB:aa<=50
   ·have U:decide ((50:Int)<(aa:Int))=false:=yay xaa
    have bQ:V (lr ins ae aa ay=(ins.all lenB&&decide (0<=ay/\ay<=50000))):=by
     show _=_;unfold lr;rw[HL.o,decide_eq_true ca,decide_eq_true a2,decide_eq_true aB];rfl
    go_enter func26,ntmps26;go_wp2_with fail;generalize w.alloc (im a1 Y c1 K ae c2 a3 aa c3 ay)=aK at aO ao HK⊢;go_loop [24] (λi=>∃k:Nat,k<=Y/\i=ih k/\V ((ins.take k).all lenB=true)) (λi=>Y-(intOf i).toNat)
    case atStart=>exact⟨0,yae,rfl,rfl⟩
    case round=>
     obtain⟨k,J,rfl,bl⟩:=hrel;by_cases aY:k<Y
     ·rcases aO.o.at_ with bX|⟨b4,z,bU,aV,bg,bq,bB⟩
      ·omega
      have c:=bB k aY;subst bU;clear aV bg bq bB;cases aH:lenB (ins.getD k 0)
      ·have H:V (lr ins ae aa ay=false):=by
        show _=_;rw[bQ.o,sP (jn HL.o aY) aH];rfl
       have cn:V _:=iZ (ins.getD k 0) aK;rw[aH]at cn;generalize ins.getD k 0=y at c cn;clear aH bl;go_wp2_with fail;refine yaj cn.o ?_;rintro e ak ⟨rfl,rfl⟩;go_wp2;go_ret;exact⟨jL H.o,HK.o⟩
      have H:V _:=qN (p:=lenB) (jn HL.o aY) bl.o aH;have cn:V _:=iZ (ins.getD k 0) aK;rw[aH]at cn;generalize ins.getD k 0=y at c cn;clear aH bl;go_wp2_with fail;refine yaj cn.o ?_;rintro e ak ⟨rfl,rfl⟩;exact xda
     have bM:V (lr ins ae aa ay=decide (0<=ay/\ay<=50000)):=by
      show _=_;have:=bl.o;rw[yap (jx HL.o)]at this;rw[bQ.o,this];rfl
     obtain⟨_,aU,ax,aF,bv⟩:=ao.o;clear bl;by_cases u1:0<=ay
     ·have H:V (lr ins ae aa ay=decide (ay<=50000)):=by
       show _=_;rw[bM.o,Bool.eq_iff_iff];simp[u1]
      have N:=decide_eq_true u1;go_wp2;go_ret;exact⟨jL H.o,HK.o⟩
     have H:V (lr ins ae aa ay=false):=by
      show _=_;rw[bM.o];exact yay (λc=>u1 c.1)
     have N:=yay u1;go_wp2;go_ret;exact⟨jL H.o,HK.o⟩
   have H:V (lr ins ae aa ay=false):=by
    show _=_;unfold lr;rw[yay aB];simp
   have U:decide ((50:Int)<(aa:Int))=true:=decide_eq_true xaa;exact xft
  have H:V (lr ins ae aa ay=false):=by
   show _=_;unfold lr;rw[yay a2];simp
  have a6:decide ((2000:Int)<(ae:Int))=true:=decide_eq_true xaa;exact xft
 have H:V (lr ins ae aa ay=false):=by
  show _=_;unfold lr;rw[HL.o,yay ca];simp
 have R:decide ((20:Int)<(Y:Int))=true:=decide_eq_true xaa;exact xft):Zp:=h
open bW in
theorem KV(w lo hi a1 K a3 Y c1 ae c2 aa c3 ay ins)(f:IS w lo hi a1 Y ins):
  Calls prog 26 #[jh a1 Y c1 K ae c2 a3 aa c3 ay] w λe O=>e=.returned (.bool (lr ins ae aa ay))/\Kept 0 0 w O:=by
 have aS:=eA 0 0 w (im a1 Y c1 K ae c2 a3 aa c3 ay);have aO:V _:=f.keep aS yaa;have HL:V _:=f.len;exact qcd
structure FB(W:World)(p q:Nat)(s:Ste):Prop where
 sa:AtT W p 0 s
 va:At W q 0 (gM s)
 lp:p<W.heap.size
 lq:q<W.heap.size
theorem FB.keep{W F p}(t:FB W p q s)(k:Kept 0 0 W F):FB F p q s:=
 ⟨t.sa.keep t.lp k yaa,t.va.keep t.lq k yaa,yak t.lp k.size,yak t.lq k.size⟩
theorem is3(w:World)(x y z m)(aD:m<=3):IS (w.alloc (.cells #[ih x,ih y,ih z] 3)) 0 (w.heap.size+1) (some ⟨w.heap.size,0,none⟩) m ([x,y,z].take m):=by
 refine⟨by simp;omega,.inr ⟨w.heap.size,0,rfl,yae,by omega,by simp,λk J=>?_⟩⟩;rw[yai,List.getElem?_take_of_lt J,<-yai];rcases (by omega:k=0\/k=1\/k=2) with rfl|rfl|rfl
 all_goals first|(go_simp;done)|(simp;done)
theorem Om(w:World)(v):At (w.alloc (iK v.op v.len v.a v.b v.c v.k)) w.heap.size 0 v:=by
 exact xjg
theorem DV(w lo hi s a n cap ins)(f:IS w lo hi a n ins):
  Calls prog 27 #[s.agg,.slice a n cap] w λe O=>e=.returned (.bool (fN ins s))/\Kept 0 0 w O:=by
 have aO:V _:=f;have HL:V _:=f.len;have bF:=eA 0 0 w s.box;have v:V _:=qE w s;have cg:w.heap.size<(w.alloc s.box).heap.size:=by simp
 have cn:V _:=λw=>iZ s.len w;have aG:V _:=λw=>yp w (gM s);have bi:V _:=λw=>vX s.op w;clear f;go_enter func27,ntmps27;go_wp2_with fail;refine(Mg _ s).mono ?_;rintro e aK ⟨rfl,ap⟩;have bj:=eA 0 0 aK (iK (gM s).op (gM s).len (gM s).a (gM s).b (gM s).c (gM s).k);have ao:V (FB (aK.alloc (iK (gM s).op (gM s).len (gM s).a (gM s).b (gM s).c (gM s).k)) w.heap.size aK.heap.size s):=⟨v.o.keep cg (ap.trans bj) yaa,Om aK (gM s),by have:=ap.size;simp at this⊢;omega,by simp⟩
 have HK:V _:=(bF.trans ap).trans bj;obtain⟨⟨bT,aX,bk,ab,r,l,bV,X⟩,⟨B,bf,bb,bc,C,au⟩,_,_⟩:=ao.o;simp only[Nat.zero_add]at aX bk ab r l bV X bf bb bc C au;clear bF ap bj v cg;go_wp2_with fail;generalize K:aK.heap.size=Q at ao B bf bb bc C au⊢;generalize aK.alloc (iK (gM s).op (gM s).len (gM s).a (gM s).b (gM s).c (gM s).k)=ak at ao HK bT aX bk ab r l bV X B bf bb bc C au⊢;clear K;refine(cn.o _).mono ?_;rintro e aM ⟨rfl,rfl⟩;cases ah:lenB s.len
 ·have H:V (fN ins s=false):=by show _=_;unfold fN;rw[ah];simp
  go_wp2;go_ret;exact⟨jL H.o,HK.o⟩
 go_wp2_with fail;refine(aG.o _).mono ?_;rintro e bx ⟨rfl,bS⟩;replace ao:V _:=ao.o.keep bS;replace HK:V _:=Kept.trans HK.o bS;clear bS bT aX bk ab r l bV X B bf bb bc C au;obtain⟨⟨bT,aX,bk,ab,r,l,bV,X⟩,⟨B,bf,bb,bc,C,au⟩,_,_⟩:=ao.o;simp only[Nat.zero_add]at aX bk ab r l bV X bf bb bc C au;cases ts:fL (gM s)
 ·have H:V (fN ins s=false):=m8 ts;go_wp2;go_ret;exact⟨jL H.o,HK.o⟩
 have bQ:V (fN ins s=((!(decide (cnt s.op=0)&&s.n !=0))&&(if s.op=0 then gn s.a ins.length&&ins.getD s.a.toNat 0==s.len else eV s.op s.len s.c ([s.n,s.len,s.len].take (cnt s.op))))):=by
  show _=_;unfold fN;rw[ah,ts];simp
 go_wp2_with fail;refine(bi.o _).mono ?_;rintro e bz ⟨rfl,rfl⟩;have aZ:=io s.op;cases aC:decide (cnt s.op=0)&&s.n !=0
 case true=>
  have H:V (fN ins s=false):=by show _=_;rw[bQ.o,aC];rfl
  have bd:cnt s.op=0/\(s.n !=0)=true:=by
   rw[Bool.and_eq_true]at aC;exact⟨of_decide_eq_true aC.1,aC.2⟩
  have cu:(((cnt s.op:Nat):Int)==0)=true:=jL bd.1
  have cD:=bd.2;go_wp2;go_ret;exact⟨jL H.o,HK.o⟩
 have aI:V (fN ins s=(if s.op=0 then gn s.a ins.length&&ins.getD s.a.toNat 0==s.len else eV s.op s.len s.c ([s.n,s.len,s.len].take (cnt s.op)))):=by
  show _=_;rw[bQ.o,aC];rfl
 have J:V _:=aC;clear bQ aC;by_cases bv:cnt s.op=0
 ·have cu:(((cnt s.op:Nat):Int)==0)=true:=by rw[bv];rfl
  have cD:(s.n !=0)=false:=by
   have:=J.o;rw[decide_eq_true bv,Bool.true_and]at this;exact this
  by_cases aj:s.op=0
  ·have bm:=beq_iff_eq.2 aj;have G:V _:=IS.keep aO.o HK.o yaa;by_cases bl:0<=s.a/\s.a<n
   ·obtain⟨j,hj⟩:∃j:Nat,s.a=j:=⟨s.a.toNat,by omega⟩
    have aD:j<n:=xaa
    have g:V (fN ins s=(ins.getD j 0==s.len)):=by
     show _=_;rw[aI.o,iv aj,HL.o,show gn s.a n=true from decide_eq_true bl,hj];rfl
    have b1:V _:=λw=>by
     have:=kZ (j:Int) n w
     rw[show gn (j:Int) n=true from decide_eq_true xaa]at this
     exact this
    rcases G.o.at_ with bX|⟨b4,z,bU,aV,bg,bq,bB⟩
    ·omega
    have c0:=bB j aD;subst bU;rw[hj]at r;generalize ins.getD j 0=y at c0 g;have cd:0<=(j:Int):=xaa;have bh:(j:Int)<n:=xaa;clear aV bg bq bB bl hj;exact xgc
   have g:V (fN ins s=false):=by
    show _=_;rw[aI.o,iv aj,HL.o,show gn s.a n=false from yay bl];rfl
   have b1:V _:=λw=>by
    have:=kZ s.a n w
    rw[show gn s.a n=false from yay bl]at this
    exact this
   clear bl;exact xgc
  have bm:=yan aj;have g:V _:=aI.o;rw[ip aj]at g;have ca:(0:Int)<=((cnt s.op:Nat):Int):=xaa;have ct:((cnt s.op:Nat):Int)<=(3:Int):=xaa;have bj:=eA 0 0 bz (.cells #[ih s.n,ih s.len,ih s.len] 3);have t:V _:=ao.o.keep bj;have I:V _:=Kept.trans HK.o bj;obtain⟨⟨bC,bH,bJ,cb,cO,b,d,x⟩,⟨a8,aJ,aP,bw,b3,cf⟩,_,_⟩:=t.o;simp only[Nat.zero_add]at bH bJ cb cO b d x aJ aP bw b3 cf;have u:V _:=is3 bz s.n s.len s.len (cnt s.op) aZ;clear bj;go_wp2_with fail;clear bT aX bk ab r l bV X B bf bb bc C au;have F:V (∀m,Calls prog 53 #[(gM s).agg,ia bz.heap.size (cnt s.op) 3] ((bz.alloc (.cells #[ih s.n,ih s.len,ih s.len] 3)).drewN m) λe O=>e=.returned (.bool (eV s.op s.len s.c ([s.n,s.len,s.len].take (cnt s.op))))/\Kept 0 0 w O/\Kept 0 0 (bz.alloc (.cells #[ih s.n,ih s.len,ih s.len] 3)) O):=λm=>(uE _ (gM s).op (gM s).len (gM s).a (gM s).b (gM s).c (gM s).k _ _ _ _ _ _ (IS.keep u.o (eJ 0 0 _ m) yaa) rfl).mono λe O h=>⟨h.1,Kept.trans I.o (Kept.trans (eJ 0 0 _ m) h.2),Kept.trans (eJ 0 0 _ m) h.2⟩
  generalize bz.alloc (.cells #[ih s.n,ih s.len,ih s.len] 3)=ch at t I u F bC bH bJ cb cO b d x a8 aJ aP bw b3 cf⊢;rw[bv]at F g;clear bv cu cD bm aj aI J aZ bC bH bJ cb cO b d x ah ts cn aG bi aO HL u HK ao;exact xcf
 have cu:(((cnt s.op:Nat):Int)==0)=false:=by rw[beq_eq_false_iff_ne];omega
 have aj:s.op≠0:=λe=>bv (jL e);have bm:=yan aj;have g:V _:=aI.o;rw[ip aj]at g;have ca:(0:Int)<=((cnt s.op:Nat):Int):=xaa;have ct:((cnt s.op:Nat):Int)<=(3:Int):=xaa;have bj:=eA 0 0 bz (.cells #[ih s.n,ih s.len,ih s.len] 3);have t:V _:=ao.o.keep bj;have I:V _:=Kept.trans HK.o bj;obtain⟨⟨bC,bH,bJ,cb,cO,b,d,x⟩,⟨a8,aJ,aP,bw,b3,cf⟩,_,_⟩:=t.o;simp only[Nat.zero_add]at bH bJ cb cO b d x aJ aP bw b3 cf;have u:V _:=is3 bz s.n s.len s.len (cnt s.op) aZ;clear bj;go_wp2_with fail;clear bT aX bk ab r l bV X B bf bb bc C au;have F:V (∀m,Calls prog 53 #[(gM s).agg,ia bz.heap.size (cnt s.op) 3] ((bz.alloc (.cells #[ih s.n,ih s.len,ih s.len] 3)).drewN m) λe O=>e=.returned (.bool (eV s.op s.len s.c ([s.n,s.len,s.len].take (cnt s.op))))/\Kept 0 0 w O/\Kept 0 0 (bz.alloc (.cells #[ih s.n,ih s.len,ih s.len] 3)) O):=λm=>(uE _ (gM s).op (gM s).len (gM s).a (gM s).b (gM s).c (gM s).k _ _ _ _ _ _ (IS.keep u.o (eJ 0 0 _ m) yaa) rfl).mono λe O h=>⟨h.1,Kept.trans I.o (Kept.trans (eJ 0 0 _ m) h.2),Kept.trans (eJ 0 0 _ m) h.2⟩
 generalize bz.alloc (.cells #[ih s.n,ih s.len,ih s.len] 3)=ch at t I u F bC bH bJ cb cO b d x a8 aJ aP bw b3 cf⊢;clear bv cu bm aj aI J aZ bC bH bJ cb cO b d x ah ts cn aG bi aO HL u HK ao;exact xcf
theorem On:(prog.info? 4).map (λi=>(i.zero,i.size,i.bytes))=some (some (.bool false),1,1):=by kernel_rfl
theorem KX(n:Nat)(w)(hn:n<=1099511627776):
  (Instr.makeSlice 59 (ih n) (ih n)).run prog w=.ok (ia w.heap.size n n) (w.alloc (.cells (madeCells #[.bool false] n) 4)):=by
 obtain⟨i,hi,cg,b8,cc⟩:=info_parts On;have:=run_make (P:=prog) w 59 4 i (.bool false) underlying59 hi cg .i64 .i64 n n xaa xaa (jx cc) xaa;exact qcr
theorem BL.made(w:World)(n):BL (w.alloc (.cells (madeCells #[.bool false] n) 4)) w.heap.size n (λ_=>false):=by
 refine⟨by simp,λk J=>?_,λo=>by simp⟩;rw[yav];simp only[madeCells];rw[Array.getElem?_map,Array.getElem?_range,iv J];simp[Nat.mod_one]
theorem DW(h:k<af.length)(j):i6 af k (af.getD k Ste.zero) ((af.getD k Ste.zero).dst+(af.getD k Ste.zero).len) j=f8 af (k+1) (j:Nat):=by
 rw[ub h];rfl
theorem Hr:jG ins af (n:Int) k=(fN ins (af.getD k Ste.zero)&&nj af k n (af.getD k Ste.zero)):=rfl
theorem vC(h:fN ins s=true):∀q,q<cnt s.op->1<=((fg s).getD q Spn.zero).len/\((fg s).getD q Spn.zero).len<=1000:=λq am=>by
 have l:q<(fg s).length:=by rw[mN];exact am
 rw[yai,yam l]
 exact tZ h (List.getElem_mem _)
theorem Hs(h:lr ins af.length ba.length ay=false):iJ ins af ba ay=false:=by
 unfold iJ;rw[h];rfl
theorem vD(hi:i<af.length)(h:jG ins af ay i=false):iJ ins af ba ay=false:=by
 unfold iJ;rw[jc hi h];simp
theorem Ht{q}(J:k<ba.length)(t:q (ba.getD k Spn.zero)=false):ba.all q=false:=by
 exact xgk
theorem DX{q}(J:k<ba.length)(h:(ba.take k).all q=true)(t:q (ba.getD k Spn.zero)=true):(ba.take (k+1)).all q=true:=by
 exact xea
theorem Hu(hi:i<ba.length)(h:pe af ay (ba.getD i Spn.zero)=false):iJ ins af ba ay=false:=by
 unfold iJ;rw[Ht hi h];simp
theorem KY(w g n cap ins af i s)(hn:n<=50000)(y:n<=cap)(f:BL w g n (λk=>f8 af i (k:Nat)))(br:fN ins s=true)(v)
  (aL:(s.op=0/\v=.iface 97 (rB s))\/∃G,G≠g/\v=.iface 99 (zT s G (cnt s.op))/\SB w G (cnt s.op) (fg s)):
  Calls prog 28 #[ia g n cap,v] w λe O=>e=.returned (.bool (nj af i n s))/\Kept g (g+1) w O/\(nj af i n s=true->BL O g n (i6 af i s (s.dst+s.len))):=by
 have ag:=lX br;rcases aL with⟨aj,rfl⟩|⟨G,bR,rfl,a5⟩
 ·exact DU w g n cap af i s hn y f ag.1 ag.2 (vC br) aj
 exact Hq w g n cap af i s hn y f ag.1 ag.2 (vC br) G a5 bR
theorem KZ(w s):
  Calls prog 29 #[s.agg] w λe O=>∃v,e=.returned v/\((s.op=0/\v=.iface 97 (rB s))\/∃G,w.heap.size<=G/\v=.iface 99 (zT s G (cnt s.op))/\SB O G (cnt s.op) (fg s))/\Kept 0 0 w O:=by
 by_cases h:s.op=0
 ·exact(DS w s h).mono λe O bN=>⟨_,bN.1,.inl ⟨h,rfl⟩,bN.2⟩
 exact(Hn w s h).mono λe O ⟨G,B,N,h3,bp⟩=>⟨_,B,.inr ⟨G,h3,rfl,N⟩,bp⟩
theorem bX.qce(h:Zp:=by
 have HK:V _:=aS;clear aS f t;cases h:lr ins ae aa ay
 ·have H:V _:=Hs (by rw[bu.o.1,bu.o.2.1];exact h);rw[h]at bA;go_enter func7,ntmps7;go_wp2_with fail;refine yaj bA.o ?_;rintro e ak ⟨rfl,bO⟩;go_wp2;go_ret;exact⟨jL H.o,Kept.trans HK.o bO⟩
 have Z:V (lr ins af.length ba.length ay=true):=by rw[bu.o.1,bu.o.2.1];exact h
 rw[h]at bA;unfold lr at h;rw[bu.o.2.2]at h;simp only[Bool.and_eq_true,decide_eq_true_eq]at h;obtain⟨⟨⟨⟨cj,cw⟩,cK⟩,_⟩,bG,bn⟩:=h;obtain⟨aZ,rfl⟩:=Int.eq_ofNat_of_zero_le bG;go_enter func7,ntmps7;exact qez):Zp:=h
theorem bX.qfa(h:Zp:=by
 have aD:=KX aZ ak xaa;have bj:=eA 0 0 ak (.cells (madeCells #[.bool false] aZ) 4);have bF:V (BL (ak.alloc (.cells (madeCells #[.bool false] aZ) 4)) ak.heap.size aZ (λk=>f8 af 0 (k:Nat))):=BL.congr (BL.made ak aZ) (λk _=>(ua af _).symm);have bD:V _:=ao.o.sz;have u:V _:=aO.o.i.keep bj yaa;have aj:V _:=aO.o.s.keep bj yaa;have ea:V _:=aO.o.o.keep bj yaa;clear bO bA aO;obtain⟨_,aU,ax,aF,bv⟩:=ao.o;replace ao:V _:=ao.o.keep bj;obtain⟨_,bo,ar,aQ,aN⟩:=ao.o;replace HK:V _:=Kept.trans HK.o bj;have cG:V (ak.heap.size<(ak.alloc (.cells (madeCells #[.bool false] aZ) 4)).heap.size):=by show _<_;simp
 generalize bp:ak.heap.size=g at aD bF bD cG u aj ea;generalize ak.alloc (.cells (madeCells #[.bool false] aZ) 4)=aM at aD ao HK bF cG u aj ea bo ar aQ aN;clear bj bp;go_wp2_with fail;clear aU ax aF bv bo ar aQ aN aD;go_loopw [17] (λx W=>∃k:Nat,k<=ae/\x=ih k/\V ((List.range k).all (jG ins af (aZ:Int))=true)/\V (BL W g aZ (λj=>f8 af k (j:Nat)))/\V (Kept g (g+1) aM W)) (λx _=>ae-(intOf x).toNat)
 case atStart=>exact⟨0,yae,rfl,rfl,bF,Kept.refl _ _ _⟩
 case round=>
  obtain⟨k,J,rfl,bl,m,ai⟩:=hrel;clear bF;obtain⟨_,aU,ax,aF,bv⟩:=ao.o.keepR ai.o (.inl bD.o);by_cases aY:k<ae
  ·rcases (aj.o.keep ai.o (.inl yad)).at_ with bX|⟨b4,z,bU,aV,bg,bq,bB⟩
   ·omega
   have bf:=bB k aY;have az:V (jG ins af (aZ:Int) k=(fN ins (af.getD k Ste.zero)&&nj af k aZ (af.getD k Ste.zero))):=Hr;have an:V _:=λj=>DW (jn bu.o.1 aY) j;have cV:=yak cG.o ai.o.size;generalize af.getD k Ste.zero=s at bf az an;have bj:=eA 0 0 wr s.box;have b1:V _:=qE wr s;have hP:wr.heap.size<(wr.alloc s.box).heap.size:=by simp
   subst bU;obtain⟨bT,aX,bk,ab,r,l,bV,X⟩:=bf;clear aV bg bq bB;have ad:V _:=(u.o.keep ai.o (.inl yad)).keep bj yaa;have y:V _:=BL.keep m.o bj yaa;have aG:V _:=(ao.o.keepR ai.o (.inl bD.o)).keep bj;obtain⟨_,bm,aW,bd,cu⟩:=aG.o;go_wp2_with fail;clear bT aX bk ab r l bV X aU ax aF bv bm aW bd cu aG;generalize Q:wr.heap.size=P at b1 hP cV⊢;have d:V _:=Kept.trans ai.o (bj.mono λb _ c=>by omega);generalize wr.alloc s.box=bx at b1 hP ad y d bj⊢;clear Q bj m ai;refine yaj (DV bx _ _ s a1 Y c1 ins ad.o) ?_;rintro e bz ⟨rfl,a5⟩;have I:V _:=Kept.trans d.o (a5.mono (lo':=g) (hi':=g+1) λb _ c=>by omega);have aq:V _:=BL.keep y.o a5 yaa;have eT:V _:=AtT.keep b1.o hP a5 yaa;have aw:=yak hP a5.size;clear a5 ad y b1 d hP;simp only;cases C:fN ins s
   ·have H:V (iJ ins af ba (aZ:Int)=false):=vD (jn bu.o.1 aY) (by rw[az.o,C];rfl);have R2:V _:=HK.o.new I.o (Nat.le_of_lt bD.o);go_wp2;go_ret;exact⟨jL H.o,R2.o⟩
   obtain⟨bT,aX,bk,ab,r,l,bV,X⟩:=eT.o;simp only[Nat.zero_add]at aX bk ab r l bV X;go_wp2_with fail;clear bT aX bk ab r l bV X;refine yaj (KZ bz s) ?_;rintro e ch ⟨v,rfl,aL,b6⟩;have R:V _:=Kept.trans I.o (b6.mono (lo':=g) (hi':=g+1) λb _ c=>by omega);have S:V _:=BL.keep aq.o b6 yaa;have au:V _:=KY ch g aZ aZ ins af k s xaa yad S.o C v (aL.imp id λ⟨G,B,N,h3⟩=>⟨G,by omega,N,h3⟩);clear b6 I aq eT aL;go_wp2_with fail;refine yaj au.o ?_;rintro e ci ⟨rfl,b7,(d6:V _)⟩;have al:V _:=Kept.trans R.o b7;clear b7 R S au;simp only;cases am:nj af k aZ s
   ·have H:V (iJ ins af ba (aZ:Int)=false):=vD (jn bu.o.1 aY) (by rw[az.o,am,Bool.and_false]);have R2:V _:=HK.o.new al.o (Nat.le_of_lt bD.o);go_wp2;go_ret;exact⟨jL H.o,R2.o⟩
   have H:V _:=iL bl.o (show jG ins af (aZ:Int) k=true by rw[az.o,C,am];rfl);have R1:V _:=BL.congr (d6.o am) (λj _=>an.o j);go_wp2;go_roundw;exact⟨k+1,by omega,by go_num,H,R1,al⟩;simp[intOf];omega
  have bM:V ((List.range ae).all (jG ins af (aZ:Int))=true):=by
   have:=bl.o;rw[show k=ae by omega]at this;exact this
  have ap:V (BL wr g aZ (λj=>f8 af af.length (j:Nat))):=by
   have:=m.o;rw[show k=ae by omega,<-bu.o.1]at this;exact this
  clear bl m;go_wp2_with fail;clear aU ax aF bv;go_loopw [37] (λx W=>∃k:Nat,k<=aa/\x=ih k/\V ((ba.take k).all (pe af (aZ:Int))=true)/\V (BL W g aZ (λj=>f8 af af.length (j:Nat)))/\V (Kept g (g+1) aM W)) (λx _=>aa-(intOf x).toNat)
  case atStart=>exact⟨0,yae,rfl,rfl,ap,ai⟩
  case round=>
   clear ap ai;obtain⟨j,hj,rfl,b8,m,ai⟩:=hrel;by_cases cf:j<aa
   ·rcases (ea.o.keep ai.o (.inl yad)).at_ with bX|⟨b4,z,bU,aV,bg,bq,bB⟩
    ·omega
    have bf:=bB j cf;have U:V (pe af (aZ:Int) (ba.getD j Spn.zero)=false->iJ ins af ba (aZ:Int)=false):=λh=>Hu (jn bu.o.2.1 cf) h;have di:V _:=λh=>DX (jn bu.o.2.1 cf) b8.o h;have cV:=yak cG.o ai.o.size;generalize ba.getD j Spn.zero=p at bf U di;have bj:=eA 0 0 wr p.box;have b1:V _:=lH wr p;have hP:wr.heap.size<(wr.alloc p.box).heap.size:=by simp
    subst bU;obtain⟨bT,aX⟩:=bf;clear aV bg bq bB;have y:V _:=BL.keep m.o bj yaa;have cg:V _:=λw=>iZ p.len w;have d:V _:=Kept.trans ai.o (bj.mono λb _ c=>by omega);go_wp2_with fail;clear bT aX;generalize Q:wr.heap.size=P at b1 hP cV⊢;generalize wr.alloc p.box=bx at b1 hP y d bj⊢;clear Q bj m ai;refine yaj (cg.o _) ?_;rintro e bz ⟨rfl,rfl⟩;cases ah:lenB p.len
    ·have H:V _:=U.o (by unfold pe;rw[ah];rfl);have R2:V _:=HK.o.new d.o (Nat.le_of_lt bD.o);go_wp2;go_ret;exact⟨jL H.o,R2.o⟩
    have ag:=of_decide_eq_true ah;obtain⟨bT,aX⟩:=b1.o;rw[Nat.zero_add]at aX;have aT:V _:=Py bz g aZ aZ af af.length xaa yad y.o p ag.1 ag.2;go_wp2_with fail;refine yaj aT.o ?_;rintro e ch ⟨rfl,b6⟩;have R:V _:=Kept.trans d.o (b6.mono (lo':=g) (hi':=g+1) λb _ c=>by omega);have S:V _:=BL.keep y.o b6 yaa;clear bT aX b6 aT d y b1;simp only;cases F:iX af af.length (aZ:Int) p.off p.len
    ·have H:V _:=U.o (by unfold pe;rw[F,Bool.and_false]);have R2:V _:=HK.o.new R.o (Nat.le_of_lt bD.o);go_wp2;go_ret;exact⟨jL H.o,R2.o⟩
    have H:V _:=di.o (by unfold pe;rw[ah,F];rfl);go_wp2;go_roundw;exact⟨j+1,by omega,by go_num,H,S,R⟩;simp[intOf];omega
   have H:V (iJ ins af ba (aZ:Int)=true):=by
    show _=_;have:=b8.o;rw[yap (jx bu.o.2.1)]at this;unfold iJ;rw[Z.o,this,bu.o.1,bM.o];rfl
   have R2:V _:=HK.o.new ai.o (Nat.le_of_lt bD.o);go_wp2;go_ret;exact⟨jL H.o,R2.o⟩):Zp:=h
open bX in
theorem xO(w a1 K a3 Y c1 ae c2 aa c3 ay ins af ba)(f:CS w a1 Y K ae a3 aa ins af ba):
  Calls prog 7 #[jh a1 Y c1 K ae c2 a3 aa c3 ay] w λe O=>e=.returned (.bool (iJ ins af ba ay))/\Kept 0 0 w O:=by
 have aS:=eA 0 0 w (im a1 Y c1 K ae c2 a3 aa c3 ay);have t:=f.keep aS;have bA:V _:=KV (w.alloc (im a1 Y c1 K ae c2 a3 aa c3 ay)) _ _ a1 K a3 Y c1 ae c2 aa c3 ay ins t.i;have bu:V (af.length=ae/\ba.length=aa/\ins.length=Y):=⟨f.s.len,f.o.len,f.i.len⟩
 have aO:V _:=t;exact qcd
variable{w:World}{R U:Option Addr}{m1 ad cap m3 ah base a2 i j al:Nat}{vs:List Vl}{Q l f r y d aB:Int}{u:Nat}
theorem aA.qau(h:Zp:=by
 unfold PtC;have e:V _:=ax;clear ax;go_enter func129,ntmps129;go_wp2_with fail;rw[aZ.o];clear B bf bb bc C au aZ;refine fo (Ok Z xaa hj e.o ?_);exact no_implicit_lambda% xai):Zp:=h
open aA in
theorem Oo(ab:MvH w cap base a2 i vs ⟨9,Q,(j:Int),f,r,u⟩)(hj:j<vs.length)(ax:(vs.getD j i0).len=y):PtC w R U m1 ad cap m3 ah base a2 i vs 0 d ([eK 10 y d 0 0],((vs.length:Nat):Int)) true:=by
 exact qat
theorem J.qam(h:Zp:=by
 refine fo (MW Z xaa ?_);exact no_implicit_lambda% xai):Zp:=h
open J in
theorem K0(ab:MvH w cap base a2 i vs ⟨10,Q,l,f,r,u⟩):PtC w R U m1 ad cap m3 ah base a2 i vs 0 d ([eK 9 1 d 0 0],((vs.length:Nat):Int)) true:=by
 exact qal
theorem aB.qau(h:Zp:=by
 unfold PtC;have e:V _:=ax;clear ax;go_enter func129,ntmps129;go_wp2_with fail;rw[aZ.o];clear B bf bb bc C au aZ;refine fo (MR Z xaa hj e.o ?_);exact no_implicit_lambda% xai):Zp:=h
open aB in
theorem K1(ab:MvH w cap base a2 i vs ⟨11,Q,(j:Int),f,r,u⟩)(hj:j<vs.length)(ax:(vs.getD j i0).len=y):PtC w R U m1 ad cap m3 ah base a2 i vs 0 d ([eK 12 y d 0 r],((vs.length:Nat):Int)) true:=by
 exact qat
end
section
theorem Oq(w R U m1 ad cap m3 ah base a2 i vs v y k d)(h:w.ownsRow base 79 6 (ia a2 vs.length cap) vs.length (fU vs))(hb:base<=w.heap.size)(hn:vs.length<=800000)(hi:i<vs.length)(aL:At w a2 (i*6) v)
  (co:0<=v.op/\v.op<=13) (J:k<cnt v.op) (ax:(v.op=9\/v.op=11)->∃j:Nat,v.a=(j:Int)/\j<vs.length/\(vs.getD j i0).len=y):
  Calls prog 129 #[eX R m1 ad (some ⟨a2,0,none⟩) vs.length cap U m3 ah,ih i,ih k,ih d] w λe O=>PtP w R m1 ad U m3 ah vs base (some a2) (ptM (i:Int) v y k d vs.length) (oY v k) e O:=by
 obtain⟨o,Q,l,f,r,u⟩:=v;have ab:MvH w _ _ _ i _ _:=⟨h,hb,hn,hi,aL⟩
 clear h hb hn hi aL;simp only at co J ax;have ai:o=2\/o=3\/o=4\/o=5\/o=6\/o=7\/o=8\/o=9\/o=10\/o=11\/o=12\/o=13:=by grind[cnt]
 rcases ai with rfl|rfl|rfl|rfl|rfl|rfl|rfl|rfl|rfl|rfl|rfl|rfl
 ·have e:ptM i ⟨2,Q,l,f,r,u⟩ y k d vs.length=([],d):=by simp[ptM,mX,oY]
  rw[e,show oY _ k=true by simp[oY]];exact MZ ab
 ·rcases (by have:cnt 3=2:=rfl;omega:k=0\/k=1) with rfl|rfl
  ·exact Jo ab
  exact Jp ab
 ·have e:ptM i ⟨4,Q,l,f,r,u⟩ y k d vs.length=([eK 4 Q d (fld ⟨4,Q,l,f,r,u⟩ (1-k)) 0],(vs.length:Int)):=by
   rcases (by have:cnt 4=2:=rfl;omega:k=0\/k=1) with rfl|rfl<;>rfl
  rw[e,show oY _ k=true by simp[oY]];exact M3 ab J rfl
 ·rcases (by have:cnt 5=2:=rfl;omega:k=0\/k=1) with rfl|rfl
  ·exact Jr ab
  exact Js ab
 ·obtain rfl:k=0:=by have:cnt 6=1:=rfl;omega
  exact M0 ab
 ·rcases (by have:cnt 7=2:=rfl;omega:k=0\/k=1) with rfl|rfl
  ·exact Jt ab
  exact Ju ab
 ·rcases (by have:cnt 8=3:=rfl;omega:k=0\/k=1\/k=2) with rfl|rfl|rfl
  ·exact Jq ab
  ·exact Jv ab
  exact Jw ab
 ·obtain rfl:k=0:=by have:cnt 9=1:=rfl;omega
  obtain⟨j,rfl,hj,ag⟩:=ax (.inl rfl);exact Oo ab hj ag
 ·obtain rfl:k=0:=by have:cnt 10=1:=rfl;omega
  exact K0 ab
 ·obtain rfl:k=0:=by have:cnt 11=1:=rfl;omega
  obtain⟨j,rfl,hj,ag⟩:=ax (.inr rfl);exact K1 ab hj ag
 ·obtain rfl:k=0:=by have:cnt 12=1:=rfl;omega
  exact M6 ab
 obtain rfl:k=0:=by have:cnt 13=1:=rfl;omega
 exact M4 ab
