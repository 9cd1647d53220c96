import Derived.Test.YtdpbpcnldpkljaaGreatP53
namespace Go.Proofs.Z
open Tryz Go.RowKit Flt
set_option maxRecDepth 1000000
set_option maxHeartbeats 0
section
attribute [local go_sem] eD eB eA
theorem yJ {w:World}{a:Option Addr}{n cap:Nat}{t:List UInt8}(f:TxA w a n t)(hn:n<=4000)(hcp:n<=cap)(hp:ft n (iz t) [gl]=-1){i0:Nat}{cb:Int}(hi0:i0<(iz t).length)(hb1:isN ((iz t).getD i0 Tok.zero))(hb2:Bj ((iz t).getD i0 Tok.zero).text cb)(hb3:∀j,j<i0->isN ((iz t).getD j Tok.zero)->i9 ((iz t).getD j Tok.zero).text):Calls prog 21 #[.slice a n cap] w (PaE w cb ((iz t).getD i0 Tok.zero).pos):=by
 have hn':¬(4000:Int)<(n:Int):=xaa
 have kA:=ez 0 0 w (eP none 0 0 none 0 0 none 0 0)
 have HT:Hid _:=mL (f.keep kA) xaa hcp
 have HL:Hid ((iz t).length<=4000):=by show _<=_;have:=mV t;have:=f.len;omega
 have HG:Hid (∀W',Kept 0 0 (w.alloc (eP none 0 0 none 0 0 none 0 0)) W'->_):=λW' kk=>wV w W' kk
 have HK:Hid _:=kA
 have HP:Hid _:=hp
 have HI0:Hid _:=hi0
 have HB1:Hid _:=hb1
 have HB2:Hid _:=hb2
 have HB3:Hid _:=hb3
 have HLt:Hid (∀j,((iz t).getD j Tok.zero).text.length<=4000):=λj=>by
  have h1:=CA t j
  have h2:=f.len
  omega
 clear kA f hp hi0 hb1 hb2 hb3
 go_enter func21,ntmps21
 go_upto_region 1 with fail
 change Code.wp _ _ _ _ (w.alloc (eP none 0 0 none 0 0 none 0 0))
 have HW1:Hid ((w.alloc (eP none 0 0 none 0 0 none 0 0)).heap.size=w.heap.size+1):=by show _=_;simp
 generalize w.alloc (eP none 0 0 none 0 0 none 0 0)=w1 at HT HG HK HW1 ⊢
 generalize hbx:w.heap.size=bx at HG HW1 ⊢
 have HBx:Hid _:=hbx
 clear hbx
 go_upto_region 4 with (go_at_call 43;refine yai HT.out ?_;rintro e w2 ⟨v,rfl,hTR,k2⟩)
 obtain⟨aT,cT,rfl,hTA⟩:=TR.slice hTR
 have HWr:Hid _:=sc w2 aT (iz t).length cT n (iz t) rfl (yan HL.out xab) (λh0=>by obtain⟨g,e,_,h2,_⟩:=hTA h0;exact⟨g,0,e,h2⟩)
 rw[HP.out] at HWr
 have HTA:Hid _:=hTA
 have HK2:Hid _:=k2
 clear hTA hTR HT k2 HP
 obtain⟨T,hTe⟩:∃T,T=iz t:=⟨_,rfl⟩
 rw[<-hTe] at HL HI0 HB1 HB2 HB3 HLt HWr HTA ⊢
 have HTe:Hid _:=hTe
 clear hTe
 have hmL:=HL.out
 generalize hmm:T.length=m at HTA HWr hmL HI0 ⊢
 have hi0:=HI0.out
 have HM:Hid _:=hmm
 clear hmm HL
 go_upto_region 7 with (go_at_call 44;refine yai HWr.out ?_;rintro e w3 ⟨rfl,k3⟩)
 have HK3:Hid _:=HK2.out.trans k3
 have HTk3:Hid (0<m->∃g,aT=some ⟨g,0,none⟩/\w1.heap.size<=g/\TkA w3 g 0 m T/\m<=cT):=λh0=>by
  exact xjn
 clear HWr k3 HTA HK2
 go_wp2_with fail
 go_loopw [7] (λiv W'=>∃i:Nat,i<=i0/\iv=.int .i64 (i:Int)/\Hid (Kept 0 0 w3 W')) (λiv _=>i0-(intOf iv).toNat)
 case atStart=>exact⟨0,Nat.zero_le _,rfl,(show Hid (Kept 0 0 w3 w3) from Kept.refl 0 0 w3)⟩
 case round=>
  obtain⟨i,hi,rfl,hK⟩:=hrel
  have hlt:i<m:=xaa
  obtain⟨gT,eT,hgB,hTk,_⟩:=HTk3.out xaa
  have hTk':=hTk.keep hK.out
  subst eT
  have q0:=hTk'.c0 i hlt
  have q1:=hTk'.c1 i hlt
  have q2:=hTk'.c2 i hlt
  have HLi:Hid _:=HLt.out i
  have HQ1:Hid (∀W',Kept 0 0 wr W'->W'.cell? ⟨gT,i*3+1,none⟩=some (.int .i64 ((T.getD i Tok.zero).pos:Int))):=λW' kk=>by
   have:=(hTk'.keep kk).c1 i hlt
   rw[Nat.zero_add] at this
   exact this
  rw[Nat.zero_add] at q0 q1 q2
  have hgb:bx≠gT:=λe=>by have:=HW1.out;omega
  have HN:Hid (isN (T.getD i Tok.zero)->(i<i0/\i9 (T.getD i Tok.zero).text)\/(i=i0/\Bj (T.getD i Tok.zero).text cb)):=λh=>by
   rcases Nat.lt_or_ge i i0 with c|c
   ·exact .inl ⟨c,HB3.out i c h⟩
   ·have e:i=i0:=xaa
    subst e
    exact .inr ⟨rfl,HB2.out⟩
  have HNn:Hid (¬isN (T.getD i Tok.zero)->i<i0):=λh=>by
   rcases Nat.lt_or_ge i i0 with c|c
   ·exact c
   ·have e:i=i0:=xaa
    subst e
    exact absurd HB1.out h
  have HEq:Hid (i=i0->(T.getD i0 Tok.zero).pos=(T.getD i Tok.zero).pos):=λe=>by rw[e]
  generalize T.getD i Tok.zero=tk at q0 q1 q2 HN HNn HEq HLi HQ1
  obtain⟨sy,ps,tx⟩:=tk
  simp only at q0 q1 q2 HN HEq HLi HQ1
  clear hTk hTk'
  have hcv:=Lib.run_convert_string_bytes (P:=prog) wr 9 22 5 ⟨tx.toArray⟩ underlying9 underlying22 underlying5
  have HY:Hid (YS (Lib.bytesWorld wr 5 ⟨tx.toArray⟩) (some ⟨wr.heap.size,0,none⟩) tx.length (gc tx)):=nd wr 5 tx
  have HKc:Hid (Kept 0 0 wr (Lib.bytesWorld wr 5 ⟨tx.toArray⟩)):=kK wr 5 ⟨tx.toArray⟩
  have hsz:(⟨tx.toArray⟩:ByteArray).size=tx.length:=rfl
  rw[hsz] at hcv
  have hcv':(convert 9 22 (eE tx)).run prog wr=_:=hcv
  clear hcv hsz
  cases c1:(sy==[105,110,116])
  ·cases c2:(sy==[100,101,99])
   ·have hlt0:i<i0:=HNn.out (λh=>by
     rcases h with h|h
     ·have h':sy=[105,110,116]:=h
      rw[h'] at c1;simp at c1
     ·have h':sy=[100,101,99]:=h
      rw[h'] at c2;simp at c2)
    exact xhe
   ·have HNo:Hid _:=HN.out (.inr (eq_of_beq c2))
    exact xap
  ·have HNo:Hid _:=HN.out (.inl (eq_of_beq c1))
   exact xap
end
section
theorem Hh {x:List UInt8}(h:¬i9 x):∃c,Bj x c:=by
 by_cases g:rS (gc x)
 ·refine⟨5,.inr ⟨g,?_,rfl⟩⟩
  rcases Nat.lt_or_ge 15 ((gc x).countP dig) with c|c
  ·exact c
  ·exact absurd ⟨g,c⟩ h
 ·exact⟨2,.inl ⟨g,rfl⟩⟩
theorem ri (T:List Tok):∀k,k<=T.length->(∀j,j<k->isN (T.getD j Tok.zero)->i9 (T.getD j Tok.zero).text)\/∃i c,i<k/\isN (T.getD i Tok.zero)/\Bj (T.getD i Tok.zero).text c/\∀j,j<i->isN (T.getD j Tok.zero)->i9 (T.getD j Tok.zero).text
 |0,_=>.inl (λj hj=>by omega)
 |k+1,hk=>by
  rcases ri T k xaa with h|⟨i,c,h1,h2⟩
  ·by_cases hn:isN (T.getD k Tok.zero)->i9 (T.getD k Tok.zero).text
   ·refine .inl (λj hj=>?_)
    by_cases e:j=k
    ·subst e;exact hn
    ·exact h j xaa
   ·have h1:isN (T.getD k Tok.zero)/\¬i9 (T.getD k Tok.zero).text:=Classical.not_imp.1 hn
    obtain⟨c,hc⟩:=Hh h1.2
    exact .inr ⟨k,c,by omega,h1.1,hc,h⟩
  ·exact .inr ⟨i,c,by omega,h2⟩
theorem psD (t:List UInt8)(h4:t.length<=4000):∃r:Rs LSt,∀{w:World} {a:Option Addr} {cap:Nat},TxA w a t.length t->t.length<=cap->Calls prog 21 #[.slice a t.length cap] w (PaZ w (w.heap.size+1) r):=by
 rcases ow t.length (iz t) [gl] with hw|⟨p,hw⟩
 ·rcases ri (iz t) (iz t).length yad with h|⟨i,c,h1,h2,h3,h5⟩
  ·have hall:∀tk∈iz t,isN tk->i9 tk.text:=λtk hm hn=>by
    obtain⟨j,hj,rfl⟩:=List.getElem_of_mem hm
    have:=h j hj
    rw[yah,yal hj] at this
    exact this hn
   obtain⟨ss,hss⟩:=CS hw
   obtain⟨r,g,hg⟩:=uv ss LSt.zero
   exact⟨r,λf hcp=>yI f h4 hcp hw hall hss (hg g yad)⟩
  ·exact⟨.error (c,((iz t).getD i Tok.zero).pos),λf hcp=>yJ f h4 hcp hw h1 h2 h3 h5⟩
 ·exact⟨.error (2,p),λf hcp=>uE f h4 hcp hw⟩
theorem vP {w:World}{g:Nat}{t:List UInt8}(h:YS w (some ⟨g,0,none⟩) t.length (gc t)):TxA w (some ⟨g,0,none⟩) t.length t:=
 ⟨rfl,λhn=>by
  rcases h.at_ with e|⟨g',off,e,h3,h4⟩
  ·omega
  ·exact⟨g',off,e,rfl,h3,λk hk=>by rw[h4 k hk,nK t k hk]⟩⟩
