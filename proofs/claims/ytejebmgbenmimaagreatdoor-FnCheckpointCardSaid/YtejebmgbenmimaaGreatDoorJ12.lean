import Derived.Test.YtejebmgbenmimaaGreatDoorJ08
import Derived.Test.YtejebmgbenmimaaGreatDoorJ09
set_option maxRecDepth 100000
set_option maxHeartbeats 4000000
set_option linter.defProp false
open Option renaming some->fA
open Bool renaming false->gA,true->iA
open List renaming length->cB
namespace Go.Proofs.YtejebmgbenmimaaGreatDoor
open Go renaming World->jA,Value->mA
open Ending renaming returned->zA
open Value renaming tuple->bB,slice->uA,pointer->xA,bool->vA,int->qA
open Obj renaming cells->aB
open IntKind renaming i64->sA
open Go.RowKit Tryz
def MC(a:List hC):Prop:=∀i(h:i<cB a),a[i].N.size<=1000000000/\a[i].V.size<=1000000000
def mV{w:jA}{B d:Nat}{e:TypeId}{a:Nat}{v:mA}{n:Nat}{f:List mA}(h:w.ownsRow B e a v n f)(j:d<=B):w.ownsRow d e a v n f:=by
 refine⟨h.1,?_⟩;obtain i|⟨g,b,c,l,k,r⟩:=h.2;exact Ca i;exact La ⟨g,b,c,l,Ua j k,r⟩
def JJ(a:List hC)(m:Nat)(h:m<cB a):(wC a)[m*2]?=fA (.string a[m].N):=by
 have e:wC a=wC (a.take m)++wC (a.drop m):=by rw[<-cG,Za]
 have b:cB (wC (a.take m))=m*2:=by rw[wG,Hb];omega
 rw[e,Uc (by omega),b,Nat.sub_self,Cb h];rfl
def MD(e:Ending)(w d:jA)(l:List hC)(c i:Nat):Prop:=∃b a,e=zA (bB #[uA b (cB l) a,dB (c:Nat),dB (i:Nat)])/\qE d w.1.size b l/\zB w d
def qx(e:Ending)(w d:jA)(l:List hC)(c i:Nat):Prop:=∃b a,e=zA (bB #[uA b (cB l) a,dB (c:Nat),dB (i:Nat)])/\cB l<=a/\qE d w.1.size b l/\zB w d
theorem BH(a:Option Addr)(e0:Nat)(c:List hC)(w:World)(hf:vD w a c)(hB:MC c)(hlen:c.length<=2000000)(hcap:c.length<=e0):
 Calls prog 139 #[.slice a c.length e0] w λe P=>qx e w P (yB c).1 (yB c).2.1 (yB c).2.2:=by
 have HF:fB (vD w a c):=hf;have HB:fB (MC c):=hB;clear hf hB;by_cases h16:16<c.length
 .rw[BQ h16];go_enter func139,ntmps139;go_wp2;refine bodyPost_ret (v:=.tuple #[.slice (some ⟨w.1.size,0,none⟩) 0 0,.int .i64 40,.int .i64 0]) (by simp[results,results139,go_sem]) rfl ⟨_,_,rfl,Ia _,Ca rfl,aC⟩
 have J:fB (¬16<c.length):=h16;go_enter func139,ntmps139;go_wp2;go_loopw [6,7,8,25] (λ_ _ _ i wr=>∃k:Nat,k<=c.length/\i=.int .i64 k/\fB (lD c 0=lD (c.drop k) k)/\Below w.1.size w wr) (λ_ _ _ i _=>c.length-(intOf i).toNat)
 case atStart=>exact⟨0,Oa _,rfl,rfl,aC⟩
 case round=>
  obtain⟨k,hk,rfl,t,d⟩:=hrel;by_cases j:k<c.length
  .obtain ⟨b,o,rfl,hb,c0,c1⟩:=(HF.o.z d).at j;obtain⟨hs1,hs2⟩:=HB.o k j;have y:fB _:=λW=>YX c[k].N W (by unfold maxLen;omega);have HVL:fB _:=λW=>KP c[k].V W hs2;have F:=AW c k j;have K:fB (∀V,pQ c[k]=V->V≠0->yB c=([],V,k)):=λV h h0=>vZ J.o (by rw[t.o,F,h,Ja h0]);have Z:fB (pQ c[k]=0->lD c 0=lD (c.drop (k+1)) (k+1)):=λh=>by rw[t.o,F,Ma h]
   unfold pQ at K Z;clear F hs1 hs2;generalize c[k].N=p at *;generalize c[k].V=r at *;go_wp2_with fail;refine tD (y.o _) ?_;cases hnm:OT p
   .have E:=gB (K.o 41 (by rw[hnm];rfl) (by omega));clear hnm;go_wp2;refine bodyPost_ret (v:=.tuple #[.slice (some ⟨w.1.size,0,none⟩) 0 0,.int .i64 41,.int .i64 k]) (by simp[results,results139,go_sem]) rfl ?_;rw[E.o];exact⟨_,_,rfl,Ia _,Ca rfl,xB d aC⟩
   rw[hnm,Ma rfl]at K Z;clear hnm;go_wp2_with fail;refine(HVL.o _).mono ?_;rintro e w2 ⟨rfl,hb2⟩;have G:fB _:=xB (xB d aC) hb2;clear hb2 HVL y;generalize zO r=V at *;by_cases h0:V=0
   .have E:=gB (Z.o h0);subst h0;go_wp2;exact⟨⟨k+1,by omega,by go_num,E.o,G.o⟩,by simp[intOf];omega⟩
   .have E:=gB (K.o V rfl h0);have h0b:((V:Int) != 0)=true:=by simp;omega
    clear h0;go_wp2;refine bodyPost_ret (v:=.tuple #[.slice (some ⟨w.1.size,0,none⟩) 0 0,.int .i64 V,.int .i64 k]) (by simp[results,results139,go_sem]) rfl ?_;rw[E.o];exact⟨_,_,rfl,Ia _,Ca rfl,G.o⟩
  .have HN:fB (lD c 0=none):=by
    show _=_;rw[t.o,Yb (by omega)];rfl
   clear t HB;go_wp2;clear j hk;go_loopw [9,10,12,47,54,55,56] (λ_ _ _ i _ _ _ wr=>∃k:Nat,k<=c.length/\i=.int .i64 k/\fB (qF [] c 0=qF (c.take k) (c.drop k) k)/\Below w.1.size w wr) (λ_ _ _ i _ _ _ _=>c.length-(intOf i).toNat)
   case atStart=>exact⟨0,Oa _,rfl,rfl,d⟩
   case round=>
    clear d;obtain⟨k,hk,rfl,t,d⟩:=hrel;by_cases j:k<c.length
    .obtain ⟨b,o,rfl,hb,c0,c1⟩:=(HF.o.z d).at j;have F:=EC c k j;have hk0:(0:Int)<=(k:Int):=by omega
     have hkc:(k:Int)<=(e0:Int):=by omega
     have HYES:fB _:=λh=>iY J.o HN.o (by rw[t.o,F,Ma h]);have HNO:fB (((c.take k).any λx=>iR x c[k])=false->qF [] c 0=qF (c.take (k+1)) (c.drop (k+1)) (k+1)):=λh=>by rw[t.o,F,Ja (by rw[h];simp)]
     have HSN:fB (∀x,iR x c[k]=(x.N.toList==c[k].N.toList)):=λx=>rfl;clear F;generalize hlk:c[k]=lk at *;generalize lk.N=p at *;generalize lk.V=r at *;have u:fB (rB (wr.alloc (.cells #[.string p,.string r] 190)) wr.1.size #[.string p,.string r] 190/\Below w.1.size w (wr.alloc (.cells #[.string p,.string r] 190))):=⟨heap_alloc_new _ _,xB d aC⟩
     go_wp2;generalize wr.alloc (.cells #[.string p,.string r] 190)=W at *;clear hb c0 c1 d;generalize wr.1.size=Q at *;clear wr;go_loopw [12,56] (λ_ i wr=>∃m:Nat,m<=k/\i=.int .i64 m/\fB (((c.take m).any λx=>iR x lk)=false)/\Below W.1.size W wr) (λ_ i _=>k-(intOf i).toNat)
     case atStart=>exact⟨0,Oa _,rfl,by show _=_;simp,jD⟩
     case round=>
      obtain⟨m,hm,rfl,C,l⟩:=hrel;have X:=u.o.1.z l;have x0:=X.cell 0;simp only[Xb,Ob]at x0;have hXl:=eB X;clear X;by_cases hmk:m<k
      .obtain ⟨b',o',e',hb',d0,d1⟩:=(HF.o.z (xB u.o.2 l)).at (i:=m) (by omega)
       simp only[Qa,Addr.mk.injEq,Cc]at e';obtain⟨rfl,rfl⟩:=e';have hT1:(c.take k).any (λx=>iR x lk)=true\/iR c[m] lk=false:=by
        cases hq:iR c[m] lk with
        |false=>exact La rfl
        |true=>
         left;rw[Zd];refine⟨c[m],?_,hq⟩;rw[List.mem_take_iff_getElem];exact⟨m,by omega,rfl⟩
       have HT1:fB _:=hT1;have HQ:fB _:=HSN.o c[m];have HT2:fB (iR c[m] lk=false->((c.take (m+1)).any λx=>iR x lk)=false):=λh=>by rw[Pa (by omega),Tf,C.o];simp[h]
       clear hT1;generalize c[m]=lm at *;generalize lm.N=O at *;generalize lm.V=va2 at *;by_cases hq:(O.toList==p.toList)=true
       .have E:fB (yB c=([],45,k)):=by
         obtain h|h:=HT1.o
         .exact HYES.o h
         .rw[HQ.o,hq]at h;exact absurd h (by simp)
        go_wp2;refine bodyPost_ret (v:=.tuple #[.slice (some ⟨w.1.size,0,none⟩) 0 0,.int .i64 45,.int .i64 k]) (by simp[results,results139,go_sem]) rfl ?_;rw[E.o];exact⟨_,_,rfl,Ia _,Ca rfl,xB (xB u.o.2 l) aC⟩
       .have hq':(O.toList==p.toList)=false:=by simpa using hq
        have E:fB _:=HT2.o (by rw[HQ.o];exact hq');clear hq;go_wp2;exact⟨⟨m+1,by omega,by go_num,E.o,xB l aC⟩,by simp[intOf];omega⟩
      .have Y:m=k:=by omega
       have E:fB _:=HNO.o (by rw[<-Y];exact C.o);subst Y;go_wp2;exact⟨⟨m+1,by omega,by go_num,E.o,xB u.o.2 l⟩,by simp[intOf];omega⟩
    .have HN2:fB (qF [] c 0=none):=by
      show _=_;rw[t.o,Yb (by omega)];rfl
     clear t;go_wp2;clear j hk;go_loopw [13,14,16,17,72] (λout me _ _ i wr=>∃(k:Nat)(f:List hC)(T cv:Nat)(L:Bool),k<=c.length/\f.length<=k/\fB (kG [] c=kG f (c.drop k)/\L=rR (c.take k))/\i=.int .i64 k/\out=.slice (some ⟨T,0,none⟩) f.length cv/\me=.bool L/\fB (wr.ownsRow w.1.size 190 2 (.slice (some ⟨T,0,none⟩) f.length cv) f.length (wC f))/\Below w.1.size w wr) (λ_ _ _ _ i _=>c.length-(intOf i).toNat)
     case atStart=>
      exact⟨0,[],_,_,false,Oa _,Oa _,⟨rfl,by simp[rR]⟩,rfl,rfl,rfl,mV (World.ownsRow_made wr #[] 0 (Ia _) (by simp[maxLen]) (by simp)) d.size,xB d aC⟩
     case round=>
      clear d;obtain⟨k,f,T,cv,L,hk,hy,t,rfl,rfl,rfl,n,d⟩:=hrel;have hsz:=d.size;by_cases j:k<c.length
      .obtain ⟨b,o,rfl,hb,c0,c1⟩:=(HF.o.z d).at j;have F:=dc f c k j;have C:=vp c k j;have hE:=dp c[k];have hMN:bP c[k]=(c[k].N.toList==[95,95,110,97,109,101,95,95]):=by rw[bP,show OY.toList=[95,95,110,97,109,101,95,95] by rw[OY,ByteArray.toList_eq]]
       by_cases D:vS c[k]=true
       .have E:fB (kG [] c=kG f (c.drop (k+1))/\L=rR (c.take (k+1))):=by
         refine⟨?_,?_⟩
         .rw[t.o.1,F,Ma D]
         .rw[C,D,t.o.2];simp
        have heb:c[k].V.toList.isEmpty=true:=by rw[<-hE];exact D
        clear F C D hE hMN;generalize c[k].N=p at *;generalize c[k].V=r at *;go_wp2;exact⟨⟨k+1,f,T,cv,L,by omega,by omega,E.o,by go_num,rfl,rfl,lC n.o aC,xB d aC⟩,by simp[intOf];omega⟩
       .have E:fB (kG [] c=kG (qQ c[k] f) (c.drop (k+1))/\(L||bP c[k])=rR (c.take (k+1))):=by
         refine⟨?_,?_⟩
         .rw[t.o.1,F,Ja D]
         .have he':vS c[k]=false:=by simpa using D
          rw[C,he',t.o.2];simp
        have heb:c[k].V.toList.isEmpty=false:=by rw[<-hE];simpa using D
        have HMN:fB _:=hMN;have HLK:fB (∀x,cP x c[k]=Op.bytesLess x.N.toList c[k].N.toList):=λx=>rfl;have HFL:fB (wC [c[k]]=[.string c[k].N,.string c[k].V]):=rfl;clear F C D hE hMN;generalize c[k]=lk at *;generalize lk.N=p at *;generalize lk.V=r at *;have u:fB (rB (wr.alloc (.cells #[.string p,.string r] 190)) wr.1.size #[.string p,.string r] 190):=heap_alloc_new _ _;have H:fB ((wr.alloc (.cells #[.string p,.string r] 190)).ownsRow w.1.size 190 2 (.slice (some ⟨T,0,none⟩) f.length cv) f.length (wC f)):=lC n.o aC;have HBW:fB (Below w.1.size w (wr.alloc (.cells #[.string p,.string r] 190))/\w.1.size<=wr.1.size/\T<wr.1.size):=⟨xB d aC,hsz,by
         obtain⟨D,_⟩|⟨g',cap',cur,D,_,hb,_⟩:=n.o.2
         .simp at D
         .simp only[Value.slice.injEq,Qa,Addr.mk.injEq,Cc]at D;rw[D.1];exact eB hb⟩
        cases L
        all_goals
         go_wp2;generalize wr.alloc (.cells #[.string p,.string r] 190)=W at *;clear n d hsz hb c0 c1;generalize wr.1.size=Q at *;clear wr;go_loopw [17] (λb0 wr=>∃m:Nat,m<=f.length/\b0=.int .i64 m/\fB (wX lk f=m+wX lk (f.drop m))/\Below W.1.size W wr) (λb0 _=>f.length-(intOf b0).toNat)
         case atStart=>exact⟨0,Oa _,rfl,by show _=_;simp,jD⟩
         case round=>
          obtain⟨m,hm,rfl,C,d⟩:=hrel;have X:=u.o.z d;have x0:=X.cell 0;have x1:=X.cell 1;simp only[Xb,Ob,Ga]at x0 x1;have y0:=mC.cells x0;have hne:=mC.there wr;have HX:fB (rB wr Q #[.string p,.string r] 190):=X;clear X x0 x1;have hcs:(∃h:m<f.length,cP f[m] lk=true/\wX lk f=m+1+wX lk (f.drop (m+1)))\/(¬(m:Int)<(f.length:Int)\/∃h:m<f.length,cP f[m] lk=false)/\wX lk f=m:=by
           by_cases q:m<f.length
           .have HPS:=wf lk f m q;cases s:cP f[m] lk
            .exact La ⟨La ⟨q,s⟩,by rw[C.o,HPS,Ja (by rw[s];simp)];rfl⟩
            .exact Ca ⟨q,s,by rw[C.o,HPS,Ma s];omega⟩
           .exact La ⟨Ca (by omega),by rw[C.o,Yb (by omega)];simp[wX]⟩
          have y:=gB fun(q:m<f.length)=>mC.cells ((mK (lC H.o d)).2.2.2 (m*2) _ (JJ f m q));obtain⟨q,s,h2⟩|⟨hx,h2⟩:=hcs
          .have E2:=gB h2;have y2:=y.o q;have hm1:(m:Int)<(f.length:Int):=by omega
           have hm00:(0:Int)<=(m:Int):=by omega
           rw[HLK.o]at s;clear y h2 C;generalize f[m].N=O at *;go_wp2_with fail;refine bC (by kernel_rfl) (by kernel_rfl) ?_;repeat (go_big_quiet_step (fail))
           refine wpQuiet_nil ?_;rintro _ ⟨x,rfl⟩;have HXB:fB _:=xB d x.h;clear y0 y2 hne;generalize x.w'=g at *;clear x;go_wp2;exact⟨⟨m+1,by omega,by go_num,E2.o,HXB.o⟩,by simp[intOf];omega⟩
          have E2:=gB h2;have hm00:(0:Int)<=(m:Int):=by omega
          clear h2 C;obtain hml'|⟨q,s⟩:=hx
          have hml0:¬m<f.length:=by omega
          rotate_left;have y2:=y.o q;have hm1:(m:Int)<(f.length:Int):=by omega
          rw[HLK.o]at s;generalize f[m].N=O at *;all_goals
           go_wp2_with fail;refine bC (by kernel_rfl) (by kernel_rfl) ?_;repeat (go_big_quiet_step (fail))
           refine wpQuiet_nil ?_;rintro _ ⟨x,rfl⟩;try clear y2
           have hx:=x.h;clear y0 hne y;generalize x.w'=g at *;clear x;have G:fB _:=xB d hx;have R:fB _:=xB HBW.o.1 G.o;obtain⟨hcv,hg2,-,hrc⟩:=mK (lC H.o G.o);have a0:=gB hrc;have M:=HX.o.z hx;have x0:g.cell? ⟨Q,0,none⟩=some (.string p):=M.cell 0;have x1:g.cell? ⟨Q,1,none⟩=some (.string r):=M.cell 1;have U:=eB M;have hmc:(m:Int)<=(cv:Int):=by omega
           have hmn:(m:Int)<=(f.length:Int):=by omega
           have A:fB (∀P,Below g.1.size g P->P.cell? ⟨Q,0,none⟩=some (.string p)/\P.cell? ⟨Q,1,none⟩=some (.string r)):=λP h=>⟨(h.cell U).trans x0,(h.cell U).trans x1⟩
           have hL1:(wC (f.take m)).length=m*2:=by rw[wG,Hb];omega
           have hL2:(wC (f.drop m)).length=(f.length-m)*2:=by rw[wG,Rc]
           clear hx d HX H u M hrc;go_upto_region 33 with fail;go_region_held3 (λP=>P.cell? ⟨Q,0,none⟩=some (.string p)/\P.cell? ⟨Q,1,none⟩=some (.string r))
            (first|go_keep|exact A.o _ k7|exact A.o _ k6|exact A.o _ (N.alloc N.size _)|exact A.o _ N|exact A.o _ (IT g _)|exact A.o _ (IU g _ _))
            (first
             |(refine eS (by rfl) _ _ (by rfl) underlying129 tS rfl (by omega) (by omega) (B:=g.1.size) (by rfl) (by exact hown6) _ (by rfl) hL2 (by exact gx (jY a0.o hg2 k6) m hcv) (qS _) (by omega) (by exact k6.size) ?_;intro g7 S w7 I hB7 hk7 _;have k7:=k6.trans hB7)
             |(refine eS (by rfl) _ _ (by rfl) underlying129 tS rfl (by omega) (by omega) (B:=g.1.size) (by rfl) (by first|exact z|exact lC z aC) [.string p,.string r] (by rfl) rfl (by first|exact ZE (heap_alloc_new _ _)|exact ZE ((hk5 _ (by simp) (by omega)).trans (qr g _ _))|exact ZE ((hk5 _ (by simp;omega) (by omega)).trans (qt g _ _))) (by simp[Value.oneCell']) (by omega) (by first|exact N.size|exact(N.alloc N.size _).size) ?_;intro g6 cap6 w6 hown6 hB6 hk6 _;have k6:Below g.1.size g w6:=(by first|exact N.trans hB6|exact(N.alloc N.size _).trans hB6))
             |(refine eS (by rfl) _ _ (by rfl) underlying129 tS rfl (by omega) (by omega) (B:=g.1.size) (by rfl) (by first|exact aJy g _|exact aJz g _ _|exact aKa g _ _) _ (by rfl) hL1 (by first|exact gw (jY a0.o hg2 (IT g _)) m|exact gw (jY a0.o hg2 (IU g _ _)) m) (qS _) (by omega) (by first|exact(IT g _).size|exact(IU g _ _).size) ?_;intro g5 cap5 w5 z hB5 hk5 _;have N:Below g.1.size g w5:=(by first|exact(IT g _).trans hB5|exact(IU g _ _).trans hB5);simp only[Ya,Mb]at z |-))
           all_goals
            have hl:(qQ lk f).length=m+1+(f.length-m):=by rw[XW];omega
            have HO7:fB (w7.ownsRow w.1.size 190 2 (.slice (some ⟨g7,0,none⟩) (qQ lk f).length S) (qQ lk f).length (wC (qQ lk f))):=by
             have hfl:wC (qQ lk f)=wC (f.take m)++[.string p,.string r]++wC (f.drop m):=by
              rw[qQ,E2.o,cG,show lk::f.drop m=[lk]++f.drop m from rfl,cG,HFL.o,Nd]
             show World.ownsRow _ _ _ _ _ _ _;rw[hl,hfl];exact mV I R.o.size
            have HB7:fB _:=xB R.o k7;rw[<-hl];have hle7:(qQ lk f).length<=k+1:=by omega
            clear I k7 hl;generalize qQ lk f=ys7 at *;go_wp2;refine⟨⟨k+1,ys7,g7,S,_,by omega,hle7,⟨E.o.1,?_⟩,by go_num,rfl,rfl,HO7.o,HB7.o⟩,by simp[intOf];omega⟩;have h:=E.o.2;rw[HMN.o]at h;simpa using h
      .have HE:fB (kG [] c=f/\L=rR c):=by
        have h:=t.o;rw[Yb (by omega),Ra (by omega)]at h;exact h
       have HR:fB (qE wr w.1.size (some ⟨T,0,none⟩) f):=zJ n.o;have hcvr:=(mK n.o).1;clear n t;cases L with
       |false=>
        have E:fB _:=GK J.o HN.o HN2.o HE.o.2.symm;go_wp2;refine bodyPost_ret (v:=.tuple #[.slice (some ⟨w.1.size,0,none⟩) 0 0,.int .i64 46,.int .i64 0]) (by simp[results,results139,go_sem]) rfl ?_;rw[E.o];exact⟨_,_,rfl,Ia _,Ca rfl,d⟩
       |true=>
        have E:fB (yB c=(f,0,0)):=by show _=_;rw[MT J.o HN.o HN2.o HE.o.2.symm,HE.o.1]
        go_wp2;refine bodyPost_ret (v:=.tuple #[.slice (some ⟨T,0,none⟩) f.length cv,.int .i64 0,.int .i64 0]) (by simp[results,results139,go_sem]) rfl ?_;rw[E.o];exact⟨_,_,rfl,hcvr,HR.o,d⟩
def RG(a:nC)(c:Nat)(b:List hC)(w:jA)(n:vD w a b)(m:MC b)(g:cB b<=2000000)(f:cB b<=c):
 Calls prog 139 #[uA a (cB b) c] w λe h=>MD e w h (yB b).1 (yB b).2.1 (yB b).2.2:=by
 refine(BH a c b w n m g f).mono ?_;rintro e h ⟨i,d,j,_,k,l⟩;exact⟨i,d,j,k,l⟩
def aMb(a:Array mA)(c:List rI):Prop:=∀k,k<cB c->a[k*2]?=fA (.pointer (cC ((qD c k).b)))/\a[k*2+1]?=fA (dB (qD c k).t)
def yH(w:jA)(g a:Nat)(hs:List rI):Prop:=∃b,rB w g b 342/\b.size=a*2/\cB hs<=a/\a<=maxLen/\aMb b hs
def yH.cells{w:jA}{g d k:Nat}{c:List rI}(h:yH w g d c)(f:k<cB c):
 w.cell? (iB g (k*2))=fA (.pointer (cC ((qD c k).b)))/\w.cell? (iB g (k*2+1))=fA (dB (qD c k).t)/\w.frozen? (iB g (k*2))=gA/\w.frozen? (iB g (k*2+1))=gA:=by
 obtain⟨i,a,_,_,_,e⟩:=h;rw[a.cell,a.cell];exact⟨(e k f).1,(e k f).2,a.free _,a.free _⟩
def yH.z{w d:jA}{g a:Nat}{c:List rI}(h:yH w g a c)(i:zB w d):yH d g a c:=by
 obtain⟨b,e,f⟩:=h;exact⟨b,e.z i,f⟩
def yH.lt{w:jA}{g a:Nat}{d:List rI}(h:yH w g a d):g<w.1.size:=by
 obtain⟨b,c,e⟩:=h;exact eB c
def uD.drew{g:Nat}{a w:jA}(h:uD g a w):uD g a w.drew:=⟨h.os,h.tape,h.output,h.size,h.block⟩
def yH.swap{w:jA}{g c i j:Nat}{a:List rI}(h:yH w g c a)(u:i<cB a)(v:j<cB a):
 yH ((((w.setCell (iB g (i*2)) (.pointer (cC ((qD a j).b)))).setCell (iB g (i*2+1)) (dB (qD a j).t)).setCell (iB g (j*2)) (.pointer (cC ((qD a i).b)))).setCell (iB g (j*2+1)) (dB (qD a i).t)) g c (gH a i j):=by
 obtain⟨o,p,d,q,r,s⟩:=h;refine⟨_,(((p.set _ _).set _ _).set _ _).set _ _,by simp[d],by rw[sD];exact q,r,λk l=>?_⟩;rw[sD]at l;rw[xI u v];by_cases e:k=j
 .subst e;rw[Ma rfl];constructor<;>simp[Eb,d]<;>omega
 rw[Ja e];by_cases f:k=i
 .subst f;rw[Ma rfl];constructor
  .rw[Ea (by omega),Ea (by omega),Ea (by omega)];simp[Eb,d];omega
  rw[Ea (by omega),Ea (by omega)];simp[Eb,d];omega
 rw[Ja f];obtain⟨m,n⟩:=s k l;constructor;rw[Ea (by omega),Ea (by omega),Ea (by omega),Ea (by omega)];exact m;rw[Ea (by omega),Ea (by omega),Ea (by omega),Ea (by omega)];exact n
def QA(x o g n h i j:Nat)(f:List rI)(w:jA)(N:w.cell? (iB x o)=fA (uA (cC g) n h))(y:n=cB f)(l:yH w g h f)(L:i<n)(M:j<n):
 Calls prog 304 #[xA (fA (iB x o)),dB i,dB j] w λe r=>e=zA (bB #[])/\yH r g h (gH f i j)/\uD g w r:=by
 have p:fB (yH ((((w.setCell (iB g (i*2)) (.pointer (cC ((qD f j).b)))).setCell (iB g (i*2+1)) (dB (qD f j).t)).setCell (iB g (j*2)) (.pointer (cC ((qD f i).b)))).setCell (iB g (j*2+1)) (dB (qD f i).t)) g h (gH f i j)):=l.swap (by omega) (by omega);obtain⟨z,B,c,d⟩:=l.cells (k:=i) (by omega);obtain⟨D,E,O,P⟩:=l.cells (k:=j) (by omega);have q:∀(a b:mA),(∃v,((w.setCell (iB g (i*2)) a).setCell (iB g (i*2+1)) b).cell? (iB g (j*2))=fA v)/\(∃v,((w.setCell (iB g (i*2)) a).setCell (iB g (i*2+1)) b).cell? (iB g (j*2+1))=fA v)/\
  ((w.setCell (iB g (i*2)) a).setCell (iB g (i*2+1)) b).frozen? (iB g (j*2))=gA/\((w.setCell (iB g (i*2)) a).setCell (iB g (i*2+1)) b).frozen? (iB g (j*2+1))=gA:=λa b=>by
  obtain⟨s,u,J,K,_⟩:=l;have m:=(u.set (i*2) a).set (i*2+1) b;exact⟨m.there (by simp;omega),m.there (by simp;omega),m.free _,m.free _⟩
 obtain⟨⟨Q,F⟩,⟨S,G⟩,H,I⟩:=q (.pointer (cC ((qD f j).b))) (dB (qD f j).t);clear y l q;generalize qD f i=A at *;generalize qD f j=C at *;generalize gH f i j=R at *;clear f;go_enter func304,ntmps304;go_wp2_with fail;go_region
 go_wp2;go_end0;exact⟨rfl,p.o,(((((uD.refl g w).setCell _ _).setCell _ _).setCell _ _).setCell _ _).drew⟩
def fK(a:List rI):List mA:=a.flatMap λx=>[.pointer (cC x.b),dB x.t]
def XC(a b:List rI):fK (a++b)=fK a++fK b:=by simp[fK]
def EF(a:List rI):cB (fK a)=cB a*2:=by
 induction a with
 |nil=>rfl
 |cons x r b=>simp[fK]at b |-;omega
def GN:∀(a:List rI)(k:Nat),k<cB a->(fK a)[k*2]?=fA (.pointer (cC ((qD a k).b)))/\(fK a)[k*2+1]?=fA (dB (qD a k).t)
 |[],k,h=>absurd h (by simp)
 |x::r,0,_=>⟨rfl,rfl⟩
 |x::r,k+1,h=>by
  have c:=GN r k (by simpa using h);have e:fK (x::r)=.pointer (cC x.b):: dB x.t::fK r:=rfl;rw[e,show(k+1)*2=k*2+1+1 by omega,Ga,Ga,Ga,Ga];exact c
def EH{w:jA}{B g n a:Nat}{c:List rI}(h:w.ownsRow B 342 2 (uA (cC g) n a) n (fK c))(u:n=cB c):yH w g a c/\B<=g:=by
 obtain⟨e,_⟩|⟨s,d,b,e,o,p,t,i,l,m⟩:=h.2;simp at e;simp only[mA.slice.injEq,Qa,Addr.mk.injEq,Cc,true_and]at e;obtain⟨rfl,rfl⟩:=e;refine⟨⟨b,p,l,by omega,i,λk r=>?_⟩,o⟩;have f:∀j,j<n*2->b[j]?=(fK c)[j]?:=λj q=>by rw[<-m,Jb q,Yd]
 rw[f _ (by omega),f _ (by omega)];exact GN c k r
def bX{w:jA}{B g a:Nat}{b:List rI}(h:yH w g a b)(m:B<=g):w.ownsRow B 342 2 (uA (cC g) (cB b) a) (cB b) (fK b):=by
 obtain⟨c,d,f,i,k,l⟩:=h;refine⟨EF b,La ⟨g,a,c,rfl,m,d,i,k,f,?_⟩⟩;apply List.ext_getElem?;intro j;by_cases n:j<cB b*2
 .rw[Jb n,Yd];obtain⟨o,p⟩:=l (j / 2) (by omega);obtain⟨q,r⟩:=GN b (j / 2) (by omega);rcases Nat.mod_two_eq_zero_or_one j with e|e
  .have:j=j / 2*2:=by omega
   rw[this,o,q]
  have:j=j / 2*2+1:=by omega
  rw[this,p,r]
 rw[Fd (by simp;omega),Fd (by rw[EF];omega)]
def ku:(prog.info? 342).map (λi=>(i.zero,i.size,i.bytes))=fA (fA (.agg #[xA none,dB 0]),2,16):=by kernel_rfl
def BO(p q:mA)(s t:Int)(w:jA):gF 388 #[.agg #[p,dB s],.agg #[q,dB t]] w (vA (decide (s<t))):=by
 go_enter func388,ntmps388;go_wp2;go_ret;exact⟨rfl,xB aC aC⟩
def sW(x y : Value)(w : World) : (invoke (.fn (.method "loop.example/s02176/impl.before") #[]) #[.iface 342 x, y]).run prog w = .ok (.enter 388 #[x, y]) w := by kernel_rfl
def uU{P:Program}{c:Array Oper}{C:jA->Prop}{Q:Act->Prop}{a:Act}{o:Oper}{b:List Oper}{f:FuncId}{args:Array mA}{v:mA}(k:Region.wanted o (yielded c a.tmps)=iA)
(j:∀w,(execOp a.eval o).run P w=.ok (.enter f args) w)(i:∀w,C w->Calls P f args w (λe d=>e=zA v/\C d))(h:wpQuiet P c C Q b (a.put o.dst v)):wpQuiet P c C Q (o::b) a:=
 BigFrame.wpQuiet_want k λK g=>⟨v,λw k=>by unfold Oper.quietAt;rw[j];exact⟨rfl,i w k⟩,g _ h⟩
def qY{P:Program}(ρ:Operand->mA)(o:Oper)(r y:Operand)(name:String)(d:Array TypeId)(a:o.op=.call { callee:=.invoke r name,args:=#[y],argTypes:=d}){u z:mA}(b:ρ r=u)(c:ρ y=z){n:Next}{w:jA}
(h:(invoke (.fn (.method name) #[]) #[u,z]).run P w=.ok n w):(execOp ρ o).run P w=.ok n w:=by
 unfold execOp;simp only[a,resolve];simp[b,c,h]
def fo(x o B:Nat)(v:mA)(j:List rI)(s:rI)(w:jA)(G:Array mA)(M:TypeId)(h:rB w x G M)(Z:G[o]?=fA v)(O:w.ownsRow B 342 2 v (cB j) (fK j))(E:v.ownBlock≠fA x)(b:B<=w.1.size)(b:cB j<=1000000000):
 Calls prog 274 #[xA (fA (iB x o)),.agg #[.pointer (cC s.b),dB s.t]] w λe w'=>e=zA (bB #[])/\∃g f,rB w' x (G.setIfInBounds o (uA (cC g) (cB j+1) f)) M/\
  w'.ownsRow B 342 2 (uA (cC g) (cB j+1) f) (cB j+1) (fK (gR j s))/\(v.ownBlock=fA g\/w.1.size<=g)/\jB (λk=>k=x\/v.ownBlock=fA k) w w':=by
 obtain⟨I,hi,b,t,U⟩:=info_parts ku;have c0:w.cell? (iB x o)=fA v:=by rw[h.cell];exact Z
 have m:=eB h;have HX:fB (rB w x G M):=h;clear h;have W:fB (((w.alloc (aB #[.pointer (cC s.b),dB s.t] 342)).alloc (aB #[.pointer (cC s.b),dB s.t] 342)).ownsRow B 342 2 v (cB j) (fK j)):=gB ((O.alloc _).alloc _);have Y:fB (((w.alloc (aB #[.pointer (cC s.b),dB s.t] 342)).alloc (aB #[.pointer (cC s.b),dB s.t] 342)).heap[w.1.size+1]?=fA (aB #[.pointer (cC s.b),dB s.t] 342 (0,0))):=gB (by have:=heap_alloc_new (w.alloc (aB #[.pointer (cC s.b),dB s.t] 342)) (aB #[.pointer (cC s.b),dB s.t] 342);simpa using this);have N:fB (∀p:jA,((w.alloc (aB #[.pointer (cC s.b),dB s.t] 342)).alloc (aB #[.pointer (cC s.b),dB s.t] 342)).grownBy p v.ownBlock->rB p x G M/\jB (λk=>v.ownBlock=fA k) w p):=λp h=>by
  have m:=(jB.of (S:=λk=>v.ownBlock=fA k) (xB (uF w _) aC)).trans' (jB.grown h);exact⟨m.blk HX.o E,m⟩
 clear O;go_enter func274,ntmps274;go_upto_region 1 with fail;go_cut [13] (λ_ m=>∃g f,rB m x (G.setIfInBounds o (uA (cC g) (cB j+1) f)) M/\yH m g f (j++[s])/\B<=g/\(v.ownBlock=fA g\/w.1.size<=g)/\g≠x/\jB (λk=>k=x\/v.ownBlock=fA k) w m)
 case first=>
  go_region_law (refine step_append_lies _ rfl (.tmp 10) (.tmp 12) 229 rfl B 342 I (.agg #[xA none,dB 0]) 2 16 underlying229 hi b t U rfl (by decide) v (cB j) (fK j) (by simp[Act.eval]) (by exact W.o) (iB (w.1.size+1) 0) 1 1 [.pointer (cC s.b),dB s.t] (by simp[Act.eval]) rfl (jA.news_of_block (cs:=#[.pointer (cC s.b),dB s.t]) (by exact Y.o)) (by intro u m;simp at m;rcases m with rfl|rfl<;>rfl) (by omega) (by unfold maxLen;omega) (by omega) (by simp;omega) (w.1.size+1+1) (by simp) ?_;intro g f p I D m J;obtain⟨n,L⟩:=N.o p ⟨D.os,D.tape,D.output,D.size,D.block⟩;have c1:p.cell? (iB x o)=fA v:=(by rw[n.cell];exact Z);have d:=n.free o)
  all_goals(go_wp2_with fail;go_meet)
  all_goals
   have J:p.ownsRow B 342 2 (uA (cC g) (cB j+1) f) (cB j+1) (fK (j++[s])):=by rw[XC];exact I
   obtain⟨O,I⟩:=EH J (by simp);have K:g≠x:=by
    obtain h|h:=m
    .exact λe=>E (by rw[<-e];exact h)
    omega
   obtain⟨J,m1,m2⟩:=O;exact⟨g,f,n.set o _,⟨J,m1.but ((uD.refl _ _).setCell _ _) K,m2⟩,I,by obtain h|h:=m;exact Ca h;exact La (by omega),K,jB.setCell (S:=λk=>k=x\/v.ownBlock=fA k) (L.mono λk _ hk=>La hk) (Ca (Ca rfl)) _ _⟩
 obtain⟨g,f,n,O,I,m,K,L⟩:=hcut;rename jA=>p;have R:fB (rB p x (G.setIfInBounds o (uA (cC g) (cB j+1) f)) M):=n;have HM1:fB (yH p g f (j++[s])):=O;have HT1:fB _:=L;have r:fB _:=m;have hoc:=(Vb.1 Z).1;have J:(G.setIfInBounds o (uA (cC g) (cB j+1) f))[o]?=fA (uA (cC g) (cB j+1) f):=by simp[hoc]
 obtain⟨T,V⟩:∃c,c=G.setIfInBounds o (uA (cC g) (cB j+1) f):=⟨_,rfl⟩
 rw[<-V]at J R;have G:fB _:=V;clear V;have k0:p.cell? (iB x o)=fA (uA (cC g) (cB j+1) f):=by rw[R.o.cell];exact J
 clear n O L m W Y N HX c0 Z hi b t U E;go_wp2;go_loopw [4] (λa wr=>∃(k:Nat)(l:List rI),a=dB k/\k<cB l/\cB l=cB j+1/\rB wr x T M/\yH wr g f l/\fB (gR j s=aR l k)/\jB (λk=>k=x\/v.ownBlock=fA k) w wr) (λa _=>(intOf a).toNat)
 case atStart=>exact⟨cB j,j++[s],by go_num,by simp,by simp,R.o,HM1.o,rfl,HT1.o⟩
 case round=>
  obtain⟨k,l,rfl,hk,O,Y,b,HS,m⟩:=hrel;have F:fB (rB wr x T M):=Y;have z:fB (yH wr g f l):=b;have Q:fB _:=m;have Z:wr.cell? (iB x o)=fA (uA (cC g) (cB j+1) f):=by rw[Y.cell];exact J
  clear Y b m k0;by_cases b:0<k
  .have X:=KJ (l:=l) b;obtain⟨q,b⟩:∃q,q=(k-1) / 2:=⟨_,rfl⟩
   rw[<-b]at X;have U:((k:Int)-1) / 2=(q:Nat):=by omega
   have hp:q<cB l:=by omega
   obtain⟨Y,a1,_,_⟩:=z.o.cells hk;obtain⟨b0,b1,_,_⟩:=z.o.cells hp;have m:fB _:=X;have t:fB (∀W,zB wr W->Calls prog 304 #[xA (fA (iB x o)),dB k,dB (((k:Int)-1) / 2)] W λe w'=>e=zA (bB #[])/\yH w' g f (gH l k q)/\uD g W w'):=
    λW hW=>by rw[U];exact QA x o g (cB j+1) f k q l W (by rw[(F.o.z hW).cell];exact J) O.symm (z.o.z hW) (by omega) (by omega)
   have HL:fB _:=O;have o:k<cB j+1:=by omega
   have o:q<cB j+1:=by omega
   clear X b O;have o:=mC.cells Z;have J:=mC.cells Y;have d2:=mC.cells a1;have d3:=mC.cells b0;have d4:=mC.cells b1;have b:=mC.there wr;clear Y a1 b0 b1 Z;generalize qD l k=A at *;generalize qD l q=C at *;go_wp2_with fail;refine bC (by kernel_rfl) (by kernel_rfl) ?_;repeat (go_big_quiet_step (fail))
   refine uU (by rfl) (λW=>qY _ _ _ _ _ _ rfl rfl rfl (sW _ _ W)) (by rintro _ ⟨x,rfl⟩;exact rC (BO _ _ _ _ _)) ?_;simp only[Act.put,Ud,Jd,Ze];repeat (go_big_quiet_step (fail))
   refine wpQuiet_nil ?_;rintro _ ⟨y,rfl⟩;have Z:fB _:=y.h;have HE:fB _:=U;clear o J d2 d3 d4 b U;generalize y.w'=b at *;clear y;by_cases H:A.t<C.t
   .have o:decide (A.t<C.t)=iA:=by simpa using H
    rw[o];have P:fB (gR j s=aR (gH l k q) q):=by show _=_;rw[HS.o,m.o,Ma H]
    go_wp2_with fail;apply oC (t.o _ Z.o);rintro J ⟨b,U⟩;have W:fB (yH J g f (gH l k q)):=b;have Y:fB (rB J x T M):=(F.o.z Z.o).but U K.symm;have HT3:fB (jB (λk=>k=x\/v.ownBlock=fA k) w J):=by
     refine(Q.o.trans' (jB.of Z.o)).trans ((jB.but U).mono λi _ e=>?_);subst e;obtain h|h:=r.o;exact Ca (La h);exact La h
    clear b U t;go_wp2;exact⟨⟨q,gH l k q,by rw[HE.o],by rw[sD];exact hp,by rw[sD];exact HL.o,Y.o,W.o,P.o,HT3.o⟩,by simp[intOf];omega⟩
   have o:decide (A.t<C.t)=gA:=by simpa using H
   rw[o];have P:fB (gR j s=l):=by show _=_;rw[HS.o,m.o,Ja H]
   go_wp2;refine bodyPost_ret (v:=bB #[]) (by simp[results,results274,go_sem]) rfl ⟨rfl,g,f,G.o ▸ F.o.z Z.o,?_,r.o,Q.o.trans' (jB.of Z.o)⟩;rw[P.o,<-HL.o];exact bX (z.o.z Z.o) I
  go_wp2;go_end0;obtain rfl:k=0:=by omega
  rw[HS.o,KK];refine⟨rfl,g,f,G.o ▸ F.o,?_,r.o,Q.o⟩;rw[<-O];exact bX z.o I
def eO(w:jA)(A:Nat->Prop)(a:nC)(b:List pB):Prop:=b=[]\/∃g o,a=fA (iB g o)/\A g/\g<w.1.size/\LI w g o b
def eO.pairs{w:jA}{A:Nat->Prop}{a:nC}{b:List pB}(h:eO w A a b):jC w a b:=by grind [eO,jC]
def kD.toN{w:jA}{C:Nat}{A:Nat->Prop}{a:nC}{b:List pB}(h:kD w C a b)(c:∀g,C<=g->A g):eO w A a b:=by grind [kD,eO]
def aMc(w:jA)(A:Nat->Prop)(b o:Nat)(t:kB):Prop:=
 ∃a d c e,w.cell? (iB b o)=fA (.string t.N)/\w.cell? (iB b (o+1))=fA (dB t.L)/\w.cell? (iB b (o+2))=fA (uA a (cB t.M) d)/\w.cell? (iB b (o+3))=fA (uA c (cB t.Z) e)/\
  eO w A a t.M/\eO w A c t.Z
def rK(w:jA)(A:Nat->Prop)(a:nC)(c:List kB):Prop:=c=[]\/∃b o,a=fA (iB b o)/\A b/\b<w.1.size/\∀i(h:i<cB c),aMc w A b (o+i*4) c[i]
def eO.keep{w w':jA}{A:Nat->Prop}{a:nC}{d:List pB}(h:eO w A a d)(l:w.1.size<=w'.1.size)(k:∀g,A g->g<w.1.size->w'.heap[g]?=w.heap[g]?):eO w' A a d:=by
 obtain h|⟨g,o,rfl,c,b,h⟩:=h;exact Ca h;have e:∀j,w'.cell? (iB g j)=w.cell? (iB g j):=λj=>jA.cell?_of_block (k g c b);exact La ⟨g,o,rfl,c,by omega,λi f=>by simp only[e];exact h i f⟩
def rK.keep{w w':jA}{A:Nat->Prop}{a:nC}{l:List kB}(h:rK w A a l)(k:w.1.size<=w'.1.size)(d:∀g,A g->g<w.1.size->w'.heap[g]?=w.heap[g]?):rK w' A a l:=by
 obtain h|⟨b,o,rfl,f,e,h⟩:=h;exact Ca h;refine La ⟨b,o,rfl,f,by omega,λi y=>?_⟩;obtain⟨m,p,n,q,r,s,t,u,v,x⟩:=h i y;have c:∀j,w'.cell? (iB b j)=w.cell? (iB b j):=λj=>jA.cell?_of_block (d b f e);exact⟨m,p,n,q,(c _).trans r,(c _).trans s,(c _).trans t,(c _).trans u,v.keep k d,x.keep k d⟩
def rK.z{w d:jA}{A:Nat->Prop}{a:nC}{c:List kB}(h:rK w A a c)(b:zB w d):rK d A a c:=h.keep b.size λg _ e=>b.block g e
def eO.mono{w:jA}{A A':Nat->Prop}{a:nC}{b:List pB}(h:eO w A a b)(c:∀g,A g->A' g):eO w A' a b:=by grind [eO]
def rK.mono{w:jA}{A A':Nat->Prop}{a:nC}{f:List kB}(h:rK w A a f)(c:∀g,A g->A' g):rK w A' a f:=by
 obtain h|⟨b,o,e,q,d,h⟩:=h;exact Ca h;refine La ⟨b,o,e,c b q,d,λi v=>?_⟩;obtain⟨j,l,k,m,n,p,r,s,t,u⟩:=h i v;exact⟨j,l,k,m,n,p,r,s,t.mono c,u.mono c⟩
def rK.tens{w:jA}{A:Nat->Prop}{a:nC}{d:List kB}(h:rK w A a d):uC w a d:=by
 obtain h|⟨b,o,rfl,_,c,h⟩:=h;exact Ca h;refine La ⟨b,o,rfl,c,λi r=>?_⟩;obtain⟨e,g,f,j,k,l,m,n,p,q⟩:=h i r;exact⟨e,g,f,j,k,l,m,n,p.pairs,q.pairs⟩
def cD.toN{w:jA}{C:Nat}{A:Nat->Prop}{a:nC}{c:List kB}(h:cD w C a c)(b:∀g,C<=g->A g):rK w A a c:=by
 obtain h|⟨g,o,k,t,T,rfl,s,u,_,h⟩:=h;exact Ca h;refine La ⟨g,o,rfl,b g s,eB u,λi v=>?_⟩;obtain⟨d,f,e,j,l,m,n,p,q,r⟩:=h i v;exact⟨d,f,e,j,l,m,n,p,q.own.toN b,r.own.toN b⟩
def uC.toN{w:jA}{a:nC}{d:List kB}(h:uC w a d):rK w (λg=>g<w.1.size) a d:=by
 obtain h|⟨b,o,e,c,h⟩:=h;exact Ca h;refine La ⟨b,o,e,c,c,λi v=>?_⟩;obtain⟨f,m,j,n,p,q,r,s,t,u⟩:=h i v;exact⟨f,m,j,n,p,q,r,s,t.elim Ca fun⟨g,o,e,l,k⟩=>La ⟨g,o,e,l,l,k⟩,u.elim Ca fun⟨g,o,e,l,k⟩=>La ⟨g,o,e,l,l,k⟩⟩
def rK.lt{w:jA}{A:Nat->Prop}{a:nC}{d:List kB}(h:rK w A a d):rK w (λg=>A g/\g<w.1.size) a d:=by
 obtain h|⟨b,o,e,x,c,h⟩:=h;exact Ca h;refine La ⟨b,o,e,⟨x,c⟩,c,λi y=>?_⟩;obtain⟨f,n,j,p,q,r,s,t,u,v⟩:=h i y;exact⟨f,n,j,p,q,r,s,t,u.elim Ca fun⟨g,o,e,l,m,k⟩=>La ⟨g,o,e,⟨l,m⟩,m,k⟩,v.elim Ca fun⟨g,o,e,l,m,k⟩=>La ⟨g,o,e,⟨l,m⟩,m,k⟩⟩
def rK.turn{w W:jA}{A S:Nat->Prop}{a:nC}{c:List kB}(h:rK w A a c)(b:jB S w W)(d:∀g,A g->¬S g):rK W A a c:=h.keep b.size λg e f=>b.block g f (d g e)
def jJ{s:vB}{b:Bool}(h:gG s=b)(w:jA)(a:s.size<=maxLen):bM 129 #[.string s] w (vA b):=h ▸ OM s w a
def rU(a:nC)(r:Nat)(d:List nB)(c p m s:Int)(O:Bool)(w:jA)(hf:wB w a d)(hs:gO d)(I:cB d<=maxLen)(J:tC d<=1000000000):
 gF 54 #[.agg #[uA a (cB d) r,qA sA c,qA sA p,qA sA m,qA sA s,vA O]] w (vA (rE d c p m s)):=by
 obtain⟨z0,z1,z2,z3,z4,z5⟩:=SA w (uA a (cB d) r) (qA sA c) (qA sA p) (qA sA m) (qA sA s) (vA O) 35;have d0:=mC.cells z0;have d1:=mC.cells z1;have d2:=mC.cells z2;have d3:=mC.cells z3;have d4:=mC.cells z4;have d5:=mC.cells z5;have F:zB w (w.alloc (aB #[uA a (cB d) r,qA sA c,qA sA p,qA sA m,qA sA s,vA O] 35)):=jD.alloc (Ia _) _;have hne:=mC.there (w.alloc (aB #[uA a (cB d) r,qA sA c,qA sA p,qA sA m,qA sA s,vA O] 35));have C:fB (∀x:mC (w.alloc (aB #[uA a (cB d) r,qA sA c,qA sA p,qA sA m,qA sA s,vA O] 35)),wB x.w' a d):=λx=>(hf.z F).z x.h;have R:fB (∀x:mC (w.alloc (aB #[uA a (cB d) r,qA sA c,qA sA p,qA sA m,qA sA s,vA O] 35)),zB w x.w'):=λx=>F.trans (x.h.mono F.size);have HS:fB (gO d):=hs;have HL:fB _:=I;unfold maxLen at I;clear z0 z1 z2 z3 z4 z5 F hf hs;by_cases hA0:(1000:Int)<cB d
 .have E:fB (rE d c p m s=gA):=by
   show _=_;have e:decide (cB d<=1000)=gA:=by simp;omega
   simp only[rE,e,Be]
  go_enter func54,ntmps54;go_wp2_with fail;refine bC (by kernel_rfl) (by kernel_rfl) ?_;repeat (go_big_quiet_step (fail))
  refine wpQuiet_nil ?_;rintro _ ⟨x,rfl⟩;go_wp2;go_ret;exact⟨tB E.o.symm,R.o x⟩
 have hA1:decide ((1000:Int)<cB d)=gA:=by simp;omega
 have hA2:decide (1000<cB d)=gA:=by simp;omega
 have Z:decide (cB d<=1000)=iA:=by simp;omega
 by_cases z:dC c 0 1000000000=gA
 .have E:fB (rE d c p m s=gA):=by show _=_;simp only[rE,z,Wg,Be]
  have u:fB _:=z;clear z Z;go_enter func54,ntmps54;go_wp2_with fail;refine bC (by kernel_rfl) (by kernel_rfl) ?_;repeat (go_big_quiet_step (first|(go_at_call 103;apply dD;apply gE;exact u.o)))
  refine wpQuiet_nil ?_;rintro _ ⟨x,rfl⟩;go_wp2;go_ret;exact⟨tB E.o.symm,R.o x⟩
 have qB:dC c 0 1000000000=iA:=by simpa using z
 have u:fB _:=qB;clear z;by_cases hC0:c<(tC d:Int)
 .have E:fB (rE d c p m s=gA):=by
   show _=_;have e:decide ((tC d:Int)<=c)=gA:=by simp;omega
   simp only[rE,e,Wg,Be]
  clear Z qB;go_enter func54,ntmps54;go_wp2_with fail;refine bC (by kernel_rfl) (by kernel_rfl) ?_;repeat (go_big_quiet_step (first|(go_at_call 103;apply dD;apply gE;exact u.o)|(go_at_call 128;exact rC (yY _ _ _ _ _ _ _ _ _ (C.o _) HL.o J))))
  refine wpQuiet_nil ?_;rintro _ ⟨x,rfl⟩;go_wp2;go_ret;exact⟨tB E.o.symm,R.o x⟩
 have hC1:decide (c<(tC d:Int))=gA:=by simp;omega
 have qC:decide ((tC d:Int)<=c)=iA:=by simp;omega
 have E:fB (rE d c p m s=(fI d&&dC p 0 1000000000000000&&dC m 0 1000000000000000&&dC s 0 1000000000000000)):=by show _=_;simp only[rE,Z,qB,qC,Oc,Bool.and_true]
 clear Z qB qC;go_enter func54,ntmps54;go_wp2_with fail;refine bC (by kernel_rfl) (by kernel_rfl) ?_;repeat (go_big_quiet_step (first|(go_at_call 103;apply dD;apply gE;exact u.o)|(go_at_call 128;exact rC (yY _ _ _ _ _ _ _ _ _ (C.o _) HL.o J))))
 refine wpQuiet_nil ?_;rintro _ ⟨x,rfl⟩;have HF:fB (wB x.w' a d):=C.o x;have S:fB (zB w x.w'):=R.o x;have n:w.1.size<x.w'.1.size:=by have:=x.h.size;simp at this;omega
 have e0:=d0 x;have T:=d2 x;have e3:=d3 x;have e4:=d4 x;clear d0 d1 d2 d3 d4 d5 C R hne u;generalize x.w'=W at *;clear x;have HC:fB (∀wr,zB W wr->wr.cell? ⟨w.1.size,0,none⟩=fA (uA a (cB d) r)/\wr.cell? ⟨w.1.size,2,none⟩=fA (qA sA p)/\
  wr.cell? ⟨w.1.size,3,none⟩=fA (qA sA m)/\wr.cell? ⟨w.1.size,4,none⟩=fA (qA sA s)):=λwr h=>
  ⟨(h.cell n).trans e0,(h.cell n).trans T,(h.cell n).trans e3,(h.cell n).trans e4⟩
 go_wp2;go_loopw [3,4,25] (λ_ _ i wr=>∃k:Nat,k<=cB d/\i=qA sA k/\aT d k=iA/\zB W wr) (λ_ _ i _=>cB d-(intOf i).toNat)
 case atStart=>exact⟨0,Oa _,rfl,rfl,jD⟩
 case round=>
  obtain⟨k,hk,rfl,U,g⟩:=hrel;obtain⟨e0',e2',e3',e4'⟩:=HC.o wr g;have L:fB _:=U;have t:fB _:=S.o.trans (g.mono (Vg n));have M:w.1.size<wr.1.size:=by have:=g.size;omega
  have hsz2:¬w.1.size=wr.1.size:=by omega
  clear U e0 T e3 e4 S HC;by_cases l:k<cB d
  .obtain ⟨b,o,rfl,hb,c0,c1,c2⟩:=(HF.o.z g).at l;have V:=(HS.o k l).1;have hsd:=(HS.o k l).2;have y:fB _:=V;unfold maxLen at hsd;clear V;by_cases P:gG d[k].N=gA
   .have f:nT d k=gA:=by simp[nT,Va l,mO,P]
    have D:fB _:=eZ f l;have N:fB _:=P;clear f P;go_wp2_with(first|(go_at_call 129;apply oC (jJ N.o _ y.o);rintro q rfl));go_ret;exact⟨tB (by rw[E.o,fI,D.o];simp),t.o.alloc (Vg M) _⟩
   have H:gG d[k].N=iA:=by simpa using P
   have N:fB _:=H;by_cases A:dC d[k].Y 0 d[k].data.size=gA
   .have f:nT d k=gA:=by simp[nT,Va l,mO,A]
    have D:fB _:=eZ f l;have v:fB _:=A;clear f P H A;go_wp2_with(first|(go_at_call 129;apply oC (jJ N.o _ y.o);rintro q rfl)|(go_at_call 103;apply oC (gE v.o _);rintro q rfl));go_ret;exact⟨tB (by rw[E.o,fI,D.o];simp),t.o.alloc (Vg M) _⟩
   have B:dC d[k].Y 0 d[k].data.size=iA:=by simpa using A
   have v:fB _:=B;have G:mO d[k]=iA:=by simp[mO,H,B]
   clear P H A B;by_cases hk0:(0:Int)<k
   .obtain ⟨b2,o2,T,q1,c0',q2,q3⟩:=(HF.o.z g).at (i:=k-1) (by omega)
    simp only[Qa,Addr.mk.injEq,Cc]at T;obtain⟨rfl,rfl⟩:=T;have f:nT d k=Op.bytesLess d[k-1].N.toList d[k].N.toList:=by
     obtain⟨j,rfl⟩:∃j,k=j+1:=⟨k-1,by omega⟩
     simp[nT,Va l,Va (show j<cB d by omega),G]
    generalize d[k-1].N=gn at c0' f;have hk1:0<k:=by omega
    clear q1 q2 q3 G;by_cases hl:Op.bytesLess gn.toList d[k].N.toList=iA
    .have D:fB (aT d (k+1)=iA):=by show aT d (k+1)=iA;rw[AI,L.o,f,hl];rfl
     clear f;go_wp2_with(first|(go_at_call 129;apply oC (jJ N.o _ y.o);rintro q rfl)|(go_at_call 103;apply oC (gE v.o _);rintro q rfl));go_quiet (fail)
     go_wp2;exact⟨⟨k+1,by omega,by go_num,D.o,below_drewN (g.alloc g.size _) _⟩,by simp[intOf];omega⟩
    have hl':Op.bytesLess gn.toList d[k].N.toList=gA:=by simpa using hl
    have D:fB _:=eZ (by rw[f];exact hl') l;clear f hl;go_wp2_with(first|(go_at_call 129;apply oC (jJ N.o _ y.o);rintro q rfl)|(go_at_call 103;apply oC (gE v.o _);rintro q rfl));go_quiet (fail)
    go_wp2;go_ret;exact⟨tB (by rw[E.o,fI,D.o];simp),below_drewN (t.o.alloc (Vg M) _) _⟩
   have f:nT d k=iA:=by
    obtain rfl:k=0:=by omega
    simp[nT,Va l,G]
   have D:fB (aT d (k+1)=iA):=by show aT d (k+1)=iA;rw[AI,L.o,f];rfl
   have hk1:decide (0<k)=gA:=by simp;omega
   clear f G;go_wp2_with(first|(go_at_call 129;apply oC (jJ N.o _ y.o);rintro q rfl)|(go_at_call 103;apply oC (gE v.o _);rintro q rfl));go_quiet (fail)
   go_wp2;exact⟨⟨k+1,by omega,by go_num,D.o,below_drewN (g.alloc g.size _) _⟩,by simp[intOf];omega⟩
  have ek:k=cB d:=by omega
  have E2:fB (rE d c p m s=(dC p 0 1000000000000000&&dC m 0 1000000000000000&&dC s 0 1000000000000000)):=by
   show _=_;have:=L.o;rw[ek]at this;rw[E.o,fI,this,Oc]
  by_cases X:dC p 0 1000000000000000=gA
  .have K:fB _:=X;clear X;go_wp2_with(first|(go_at_call 103;apply oC (gE K.o _);rintro q rfl));go_ret;exact⟨tB (by rw[E2.o,K.o];rfl),t.o⟩
  have K:fB (dC p 0 1000000000000000=iA):=by show _=_;simpa using X
  clear X;by_cases Y:dC m 0 1000000000000000=gA
  .have Q:fB _:=Y;clear Y;go_wp2_with fail;apply oC (gE K.o _);rintro q rfl;go_wp2_with fail;apply oC (gE Q.o _);rintro q rfl;go_wp2;go_ret;exact⟨tB (by rw[E2.o,K.o,Q.o];rfl),t.o⟩
  have Q:fB (dC m 0 1000000000000000=iA):=by show _=_;simpa using Y
  clear Y;go_wp2_with fail;apply oC (gE K.o _);rintro q rfl;go_wp2_with fail;apply oC (gE Q.o _);rintro q rfl;go_wp2_with fail;apply oC (zD _ _ _ _);rintro q rfl;go_wp2;go_ret;exact⟨tB (by rw[E2.o,K.o,Q.o];rfl),t.o⟩
