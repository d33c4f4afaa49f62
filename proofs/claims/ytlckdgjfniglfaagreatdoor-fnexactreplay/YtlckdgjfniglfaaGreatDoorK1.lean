import Derived.Test.YtlckdgjfniglfaaGreatDoorEP3
set_option linter.unusedVariables false
set_option maxHeartbeats 8000000
set_option maxRecDepth 100000
namespace Go.Proofs.YtlckdgjfniglfaaGreatDoor
open Proofs.Tryz
open Go.RowKit
theorem list_ne {s t:ByteArray} (h:¬ s=t):¬ s.toList=t.toList:=fun e=>h (by
 apply ByteArray.ext;rw [ByteArray.toList_eq,ByteArray.toList_eq] at e;exact Array.toList_inj.1 e)
theorem getD_all {a b:List G3} (hn:a.length=b.length) (h:∀ j,j<a.length->a.getD j g3z=b.getD j g3z):a=b:=by
 refine List.ext_getElem hn fun j h1 h2=>?_;have:=h j h1;simpa [List.getD,List.getElem?_eq_getElem h1,List.getElem?_eq_getElem h2] using this
theorem c74 (x y:R3) (ai bi:Option Addr) (ci di:Nat) (w:World) (hl:x.gs.length<=1048576) (hl':y.gs.length<=1048576) (hat:GlsAt w ai x.gs) (hat':GlsAt w bi y.gs):
 Calls prog 74 #[.agg #[.string x.key,.slice ai x.gs.length ci,.string x.out],.agg #[.string y.key,.slice bi y.gs.length di,.string y.out]] w fun e w'=>Rb (x=y) e/\Below w.heap.size w w':=by
 obtain ⟨xk,xg,xo⟩:=x;obtain ⟨yk,yg,yo⟩:=y;simp only at hl hl' hat hat' ⊢;obtain ⟨V,hV⟩:∃ V,V=((w.alloc (.cells #[.string xk,.slice ai xg.length ci,.string xo] 96)).alloc (.cells #[.string yk,.slice bi yg.length di,.string yo] 96)):=⟨_,rfl⟩;have hB0:Below w.heap.size w V:=by rw [hV];exact bA_.alloc sm_ _
 have hz:V.heap.size=w.heap.size+2:=by rw [hV];simp
 have a1:V.cell? ⟨w.heap.size,1,none⟩=some (.slice ai xg.length ci):=by rw [hV];simp [go_sem]
 have b1:V.cell? ⟨w.heap.size+1,1,none⟩=some (.slice bi yg.length di):=by rw [hV];simp [go_sem]
 have hX:=gls_below hat hB0;have hY:=gls_below hat' hB0;have HV:=hI_ hV;clear hV hat hat';by_cases hk:xk=yk
 · by_cases ho:xo=yo
   · by_cases hn:xg.length=yg.length
     · rw [<- hn]
       rw [<- hn] at b1;subst hk;subst ho;rw [<- hn] at HV;have HNn:=hI_ hn;clear hn;obtain ⟨b,off,hc⟩:=gls_some hX;obtain ⟨b',off',hc'⟩:=gls_some hY;have HC:=hI_ hc;have HC':=hI_ hc';clear hc hc' hX hY;go_enter func74,ntmps74
       go_wp2_with fail
       rw [<- HV.out];clear HV;go_loopw [5] (fun i wr=>∃ (k:Nat),k<=xg.length/\i=.int .i64 k/\Hid (∀ j,j<k->xg.getD j g3z=yg.getD j g3z)/\Below V.heap.size V wr) (fun i _=>xg.length - (intOf i).toNat)
       case atStart=>exact ⟨0,Nat.zero_le _,rfl,fun j h=>absurd h (Nat.not_lt_zero _),Below.refl _ _⟩
       case round=>
        obtain ⟨k,hk2,rfl,hd,hb⟩:=hrel;have hB1:=bT_ hB0 hb;have e1:=(hb.cell (p:=⟨w.heap.size,1,none⟩) (show w.heap.size<V.heap.size by omega)).trans a1;have e2:=(hb.cell (p:=⟨w.heap.size+1,1,none⟩) (show w.heap.size+1<V.heap.size by omega)).trans b1;by_cases hlt:k<xg.length
        · rcases HC.out with hss | ⟨ha,hbw,hcell⟩
          · rw [hss] at hlt;exact absurd hlt (Nat.not_lt_zero _)
          rcases HC'.out with hss | ⟨ha',hbw',hcell'⟩
          · have hn:=HNn.out;rw [hss] at hn;rw [hn] at hlt;exact absurd hlt (Nat.not_lt_zero _)
          subst ha;subst ha';have g0:=(hb.cell (p:=⟨b,off+k*3,none⟩) hbw).trans (hcell k hlt).1;have g1:=(hb.cell (p:=⟨b,off+k*3+1,none⟩) hbw).trans (hcell k hlt).2.1;have g2:=(hb.cell (p:=⟨b,off+k*3+2,none⟩) hbw).trans (hcell k hlt).2.2;have g0':=(hb.cell (p:=⟨b',off'+k*3,none⟩) hbw').trans (hcell' k (by have:=HNn.out;omega)).1;have g1':=(hb.cell (p:=⟨b',off'+k*3+1,none⟩) hbw').trans (hcell' k (by have:=HNn.out;omega)).2.1;have g2':=(hb.cell (p:=⟨b',off'+k*3+2,none⟩) hbw').trans (hcell' k (by have:=HNn.out;omega)).2.2;clear hcell hcell';by_cases hg:xg.getD k g3z=yg.getD k g3z
          · have HD:Hid (∀ j,j<k+1->xg.getD j g3z=yg.getD j g3z):=fun j hj=>by
             rcases Nat.lt_or_ge j k with h | h
             · exact hd.out j h
             · obtain rfl:j=k:=om_
               exact hg
            rw [<- hg] at g0' g1' g2';generalize xg.getD k g3z=X at*;clear hg hd
            go_wp2_with fail
            go_region
            all_goals go_wp2
            all_goals go_roundw
            all_goals first
             | exact ⟨k+1,om_,by go_num,HD,hb.drew⟩
             | (simp [intOf];omega)
          · have HN:Hid (¬ R3.mk xk xg xo=R3.mk xk yg xo):=fun h=>hg (by injection h with _ h2;rw [h2])
            generalize xg.getD k g3z=X at*;generalize yg.getD k g3z=Y at*;obtain ⟨n1,t1,r1⟩:=X;obtain ⟨n2,t2,r2⟩:=Y;by_cases q1:n1=n2
            · subst q1
              by_cases q2:t1=t2
              · subst q2
                have q3:¬ r1=r2:=fun h=>hg (by rw [h]);have q3':=list_ne q3;clear hg
                go_wp2_with fail
                go_region
                all_goals go_wp2
                all_goals go_ret
                all_goals exact ⟨rb_no HN.out,hB1.drew⟩
              · have q2':=list_ne q2
                clear hg
                go_wp2_with fail
                go_region
                all_goals go_wp2
                all_goals go_ret
                all_goals exact ⟨rb_no HN.out,hB1.drew⟩
            · have q1':(n1==n2)=false:=by simpa using q1
              clear hg
              go_wp2_with fail
              go_region
              all_goals go_wp2
              all_goals go_ret
              all_goals exact ⟨rb_no HN.out,hB1.drew⟩
        · obtain rfl:k=xg.length:=om_
          have HY:Hid (R3.mk xk xg xo=R3.mk xk yg xo):=by
           show R3.mk _ _ _=R3.mk _ _ _;rw [getD_all HNn.out hd.out]
          go_wp2;go_ret;exact ⟨rb_yes HY.out,hB1⟩
     · have HN:Hid (¬ R3.mk xk xg xo=R3.mk yk yg yo):=fun h=>hn (by injection h with _ h2;rw [h2])
       subst hk;subst ho;have hn1:¬ (xg.length:Int)=yg.length:=om_;go_enter func74,ntmps74
       go_wp2_with fail
       rw [<- HV.out];go_ret;exact ⟨rb_no HN.out,hB0⟩
   · have HN:Hid (¬ R3.mk xk xg xo=R3.mk yk yg yo):=fun h=>ho (by injection h)
     subst hk;have ho1:=list_ne ho;go_enter func74,ntmps74;go_wp2;go_ret;rw [<- HV.out];exact ⟨rb_no HN.out,hB0⟩
 · have HN:Hid (¬ R3.mk xk xg xo=R3.mk yk yg yo):=fun h=>hk (by injection h)
   have hk1:=list_ne hk;go_enter func74,ntmps74;go_wp2;go_ret;rw [<- HV.out];exact ⟨rb_no HN.out,hB0⟩
end Go.Proofs.YtlckdgjfniglfaaGreatDoor
