import Derived.Test.YtfbgamknfommpaaGreatDoorMd
namespace Go.Proofs.YtfbgamknfommpaaGreatDoor
open Go.RowKit
end Go.Proofs.YtfbgamknfommpaaGreatDoor
namespace Go.Proofs.YtfbgamknfommpaaGreatDoor
open Go.RowKit
end Go.Proofs.YtfbgamknfommpaaGreatDoor
